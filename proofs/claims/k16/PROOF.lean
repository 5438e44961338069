import PyProof.Rows.All
import Wide.All
import OpenK.AllK
import Wide.FinOn
import Lean
import PyProof.EqAt
import PyProof.EqKinds
import PyProof.TupleCall
import PyProof.Rows.StrJoin2
import PyProof.TupleOfGen
import PyProof.ListRange
import PyProof.Draws
import PyProof.Rows.StrClose3
import KE.KSortedM
import PyProof.Rows.SortWalk
import PyProof.WalkInts
import PyProof.Rows.Range3
import PyProof.ZipIter
import PyProof.ConsumeWalk
import PyProof.Rows.SeqMore
import KE.KRevIter
import KE.KRevSl
import KE.KUnpack
import KE.KDictSum
import KE.KTupSum
import PySem.Challenge.RW_bearfaults_k16_threes_and_pairs
noncomputable section
set_option bootstrap.genMatcherCode false
def PySem.W.Fast.tw3664235675788160321:=0
def PySem.W.Fast.tw3872565153243992023:=0
def PySem.W.Fast.tw16393433652663419068:=0
def PySem.W.Fast.tw5067695445539980884:=0
def PySem.W.Fast.tw5365223773162984120:=0
def PySem.W.Fast.tw8997815153965023553:=0
def PySem.W.Fast.tw8368133603506380545:=0
def PySem.W.Fast.tw2603335018726909519:=0
def PySem.W.Fast.tw598642765243508015:=0
def PySem.W.Fast.tw12741930535017727064:=0
def PySem.W.Fast.tw17552976857136282129:=0
def PySem.W.Fast.tw9257197709050911079:=0
def PySem.W.Fast.tw12059623549901981691:=0
def PySem.W.Fast.tw8262262179628362871:=0
def PySem.W.Fast.tw8385912128278894258:=0
def PySem.W.Fast.tw16314746540186432008:=0
def PySem.W.Fast.tw8725224602568088629:=0
def PySem.W.Fast.tw3075222193584813042:=0
def PySem.W.Fast.tw3613433747204301831:=0
def PySem.W.Fast.tw6347178500997184831:=0
def PySem.W.Fast.tw15828970540261603582:=0
def PySem.W.Fast.tw382984541076645217:=0
def PySem.W.Fast.tw17334578393068951576:=0
def PySem.W.Fast.tw11630095692078780119:=0
def PySem.W.Fast.tw13050470248315993457:=0
def PySem.W.Fast.tw7913919420575812012:=0
def PySem.W.Fast.tw9302186375906986165:=0
def PySem.W.Fast.tw4624529827396014162:=0
def PySem.W.Fast.tw13951006987876302532:=0
def PySem.W.Fast.tw13726427942230067886:=0
def PySem.W.Fast.tw7589629347971664927:=0
def PySem.W.Fast.tw15610362868060157055:=0
def PySem.W.Fast.tw11476043239103859503:=0
def PySem.W.Fast.tw1585509518833151928:=0
def PySem.W.Fast.tw2837718548761343385:=0
def PySem.W.Fast.tw16133373664335645939:=0
def PySem.W.Fast.tw14846582889656507148:=0
def PySem.W.Fast.tw4316176337617423813:=0
def PySem.W.Fast.tw11290933550371856983:=0
def PySem.W.Fast.tw278869759287617188:=0
set_option Elab.async false
set_option linter.all false
set_option maxRecDepth 100000
set_option maxHeartbeats 4000000
section
set_option maxRecDepth 100000
namespace L2
open PySem PySem.Spec PyProof.Rows
noncomputable abbrev Key:=Sum Int Str
noncomputable def qV:Key→Value→Bool
 | .inl k,v=>Value.isInt k v
 | .inr x,v=>Value.isStrOf x v
noncomputable def IM(w:World):Key→Int
 | .inl k=>hashInt k
 | .inr x=>hashStr w x
theorem dA:∀{k:Key} {v:Value},qV k v=true→(∃i t,k=Sum.inl i∧v=Value.int i t)∨(∃x t,k=Sum.inr x∧v=Value.str x t)
 | .inl i,v,h=>by
   obtain⟨t,e⟩:=Value.isInt_shape (k:=i) (v:=v) h
   exact .inl ⟨i,t,rfl,e⟩
 | .inr x,v,h=>by
   obtain⟨t,e⟩:=Value.isStrOf_shape (x:=x) (v:=v) h
   exact .inr ⟨x,t,rfl,e⟩
theorem yq(i:Int)(t:Tok):qV (.inl i) (.int i t)=true:=by simp [qV,Value.isInt]
theorem yX(x:Str)(t:Tok):qV (.inr x) (.str x t)=true:=by simp [qV,Value.isStrOf]
theorem EC(a b:Int):decide ((Sum.inl a:Key)=Sum.inl b)=(a==b):=by
 by_cases e:a=b
 ·subst e;simp
 ·have h:¬(Sum.inl a:Key)=Sum.inl b:=fun q=>e (Sum.inl.inj q)
  rw[decide_eq_false h]
  exact(beq_eq_false_iff_ne.mpr e).symm
theorem EF(a b:Str):decide ((Sum.inr a:Key)=Sum.inr b)=decide (a=b):=by
 by_cases e:a=b
 ·subst e;simp
 ·have h:¬(Sum.inr a:Key)=Sum.inr b:=fun q=>e (Sum.inr.inj q)
  rw[decide_eq_false h,decide_eq_false e]
theorem Gm(a:Int)(b:Str):decide ((Sum.inl a:Key)=Sum.inr b)=false:=decide_eq_false (fun q=>nomatch q)
theorem EZ(a:Str)(b:Int):decide ((Sum.inr a:Key)=Sum.inl b)=false:=decide_eq_false (fun q=>nomatch q)
noncomputable def dJ(prog:Program)(w:World):PySem.KeyKind prog w Key where
 is:=qV
 hash:=IM w
 inj:=fun v a b ha hb=>by
  rcases dA ha with⟨i,t,rfl,rfl⟩ | ⟨x,t,rfl,rfl⟩
  ·rcases dA hb with⟨j,u,rfl,e⟩ | ⟨y,u,rfl,e⟩
   ·injection e with e1 _;rw [e1]
   ·exact nomatch e
  ·rcases dA hb with⟨j,u,rfl,e⟩ | ⟨y,u,rfl,e⟩
   ·exact nomatch e
   ·injection e with e1 _;rw [e1]
 byValue:=fun k v h=>by
  rcases dA h with⟨i,t,rfl,rfl⟩ | ⟨x,t,rfl,rfl⟩ <;> rfl
 pyHash:=fun hv h=>by
  rcases dA hv with⟨i,t,rfl,rfl⟩ | ⟨x,t,rfl,rfl⟩
  ·exact wpAny_pyHash_int h
  ·exact wpAny_pyHash_str h
 eqBool:=fun hu hv h=>by
  rcases dA hu with⟨i,t,rfl,rfl⟩ | ⟨x,t,rfl,rfl⟩
  ·rcases dA hv with⟨j,u,rfl,rfl⟩ | ⟨y,u,rfl,rfl⟩
   ·rw[EC] at h;exact wpAny_eqBool_int h
   ·rw[Gm] at h;exact SeqAt.EqAt.int_str i t y u _ _ _ _ h
  ·rcases dA hv with⟨j,u,rfl,rfl⟩ | ⟨y,u,rfl,rfl⟩
   ·rw[EZ] at h;exact SeqAt.EqAt.str_int x t j u _ _ _ _ h
   ·rw[EF] at h;exact wpAny_eqBool_str h
 «strs»:=fun k x t v h=>by
  rcases dA h with⟨i,u,rfl,e⟩ | ⟨y,u,rfl,e⟩
  ·exact nomatch e
  ·injection e with e1 _
   subst e1
   cases v <;> rfl
theorem uR(prog:Program)(w:World)(i:Int)(t:Tok):(dJ prog w).is (.inl i) (.int i t)=true:=yq i t
theorem ud(prog:Program)(w:World)(x:Str)(t:Tok):(dJ prog w).is (.inr x) (.str x t)=true:=yX x t
end L2
namespace L2
open PySem PySem.Spec PyProof.Rows
inductive V where
 | dk | bl (b:Bool) | int (i:Int) | str (x:Str) | byt (b:Array UInt8) | flt (b:UInt64) | ref (a:Addr) | ty (n:String)
 deriving DecidableEq
noncomputable def RelV:V→Value→Prop
 | .dk,u=>u=Value.none
 | .bl b,u=>u=Value.bool b
 | .int i,u=>∃t,u=Value.int i t
 | .str x,u=>∃t,u=Value.str x t
 | .byt b,u=>∃t,u=Value.bytes b t
 | .flt b,u=>∃t,u=Value.float b t
 | .ref a,u=>u=Value.ref a
 | .ty n,u=>u=Value.type n
noncomputable abbrev Vals:List V→List Value→Prop:=Paired RelV
theorem Vals.length{xs:List V}{us:List Value}(r:Vals xs us):xs.length=us.length:=Paired.length r
theorem Vals.get:∀{xs:List V} {us:List Value} {i:Nat} {x:V},Vals xs us→xs[i]? =some x→∃u,us[i]? =some u∧RelV x u
 | _,_,_,_, .nil,e=>by simp at e
 | _,_,0,_, .cons r _,e=>by simp at e;subst e;exact⟨_,rfl,r⟩
 | _,_,i+1,x, .cons _ t,e=>by
   obtain⟨u,h1,h2⟩:=Vals.get (i:=i) (x:=x) t (by simpa using e)
   exact⟨u,by simpa using h1,h2⟩
theorem Vals.set{x:V}{u:Value}(r:RelV x u):∀{xs:List V} {us:List Value} (i:Nat),Vals xs us→Vals (xs.set i x) (us.set i u)
 | _,_,_, .nil=> .nil
 | _,_,0, .cons _ t=> .cons r t
 | _,_,i+1, .cons q t=> .cons q (Vals.set r i t)
theorem Vals.append:∀{xs ys:List V} {us ws:List Value},Vals xs us→Vals ys ws→Vals (xs++ys) (us++ws)
 | _,_,_,_, .nil,s=>s
 | _,_,_,_, .cons r t,s=> .cons r (Vals.append t s)
theorem Vals.take:∀{xs:List V} {us:List Value} (n:Nat),Vals xs us→Vals (xs.take n) (us.take n)
 | _,_,0,_=> .nil
 | _,_,_+1, .nil=> .nil
 | _,_,n+1, .cons r t=> .cons r (Vals.take n t)
theorem Vals.drop:∀{xs:List V} {us:List Value} (n:Nat),Vals xs us→Vals (xs.drop n) (us.drop n)
 | _,_,0,r=>r
 | _,_,_+1, .nil=> .nil
 | _,_,n+1, .cons _ t=>Vals.drop n t
noncomputable def mJ:Option V→Option Value→Prop
 | some v,some u=>RelV v u
 | none,none=>True
 | _,_=>False
noncomputable def KV{κ:Type}:List (κ × V)→List (κ × Value)→Prop:=Paired fun(p:κ × V) (q:κ × Value)=>p.1=q.1∧RelV p.2 q.2
noncomputable def kV:Key→V
 | .inl i=> .int i
 | .inr x=> .str x
inductive HO where
 | lst (xs:List V)
 | tup (xs:List V)
 | dK (kvs:List (Key × V)) | dT (kvs:List (List Key × V))
 | set (S:Int→Bool) (n:Nat)
 | ins (C dx:Addr) (fs:List (Str × V))
 | own (x:Addr)
 | xd (fs:List (Str × V))
 | met (f x:Addr)
 | rng (lo hi:Int)
 | iF (o:Obj) (u:HO)
 | tbl (ps:Array Value)
 | ext (φ:Heap→Prop)
noncomputable abbrev Hp:=Addr→Option HO
noncomputable def upd(H:Hp)(a:Addr)(o:HO):Hp:=fun b=>if b=a then some o else H b
theorem bc{H:Hp}{a:Addr}{o:HO}:upd H a o a=some o:=by unfold upd;rw [if_pos rfl]
theorem ba{H:Hp}{a b:Addr}{o:HO}(h:b≠a):upd H a o b=H b:=by unfold upd;rw [if_neg h]
theorem DN{H:Hp}{a:Addr}{o u:HO}:upd (upd H a o) a u=upd H a u:=by
 funext b;unfold upd;split <;> rfl
theorem cC{H:Hp}{a b:Addr}{o:HO}(h:H a=some o)(h':H b=none):a≠b:=by
 intro e;subst e;rw [h] at h';cases h'
section
variable (P:Program) (w:World)
noncomputable def e_(H:Hp)(h:Heap)(a:Addr):HO→Prop
 | .lst xs=>xs.length≤sizeLine∧∃(its:List Value) (n:Nat),Vals xs its∧h.get? a=some {cls:= .type "list",data:= .seq its.toArray n}
 | .tup xs=>xs.length≤sizeLine∧∃its:List Value,Vals xs its∧IsTup h a its.toArray
 | .dK kvs=>kvs.length≤sizeLine∧(a==sysModules)=false∧∃vs,KV kvs vs∧h.DictOf (dJ P w) a vs
 | .dT kvs=>kvs.length≤sizeLine∧(a==sysModules)=false∧∃xs:List (List Key × Addr × Value),
    Paired (fun(p:List Key × V) (q:List Key × Addr × Value)=>p.1=q.1∧H q.2.1=some (.tup (p.1.map kV))∧RelV p.2 q.2.2) kvs xs∧
    ∃o es ep,h.get? a=some o∧o.ExactDict∧o.data= .dict es ep∧es.toList=xs.map (entryOfKey (tupleKind (dJ P w)))∧(xs.map (·.1)).Nodup
 | .set S n=>h.SetOf (intKind P w) a S n
 | .ins C dx fs=>H dx=some (.own a)∧fs.length≤1000∧dx≠a∧h.get? a=some (PySem.W.instObj C dx)∧
    ∃mA,h.Ns1 dx mA∧(∀f,mJ (fs.lookup f) (mA f))∧PySem.Within mA (fs.map (·.1))
 | .own _=>∃o,h.get? a=some o
 | .xd fs=>∃mA,h.Ns1 a mA∧∀f,mJ (fs.lookup f) (mA f)
 | .rng lo hi=>∃t u v,h.get? a=some {cls:= .type "range",data:= .fields #[.int lo t, .int hi u, .int 1 v]}
 | .iF o u=>h.get? a=some o∧e_ H h a u
 | .tbl ps=>h.get? a=some {cls:= .none,data:= .fields ps}
 | .met f x=>h.get? a=some (PySem.W.methodObj (.ref f) (.ref x))
 | .ext φ=>φ h∧(∃o,h.get? a=some o)∧∀h1 h2:Heap,φ h1→(∀o,h1.get? a=some o→h2.get? a=some o)→φ h2
noncomputable def lr(H:Hp)(h:Heap):Prop:=∀a o,H a=some o→e_ P w H h a o
end
section
variable {P:Program} {w:World} {H H':Hp} {h h':Heap} {a:Addr} {o:HO}
theorem e_.lt(x:e_ P w H h a o):a < h.objs.size:=by
 cases o with
 | lst xs=>obtain⟨_,_,_,_,e⟩:=x;exact Heap.lt_size e
 | tup xs=>obtain⟨_,_,_,p⟩:=x;exact p.lt
 | dK kvs=>obtain⟨_,_,_,_,o,_,_,e,_⟩:=x;exact Heap.lt_size e
 | dT kvs=>obtain⟨_,_,_,_,o,_,_,e,_⟩:=x;exact Heap.lt_size e
 | set S n=>obtain⟨o,_,_,_,e,_⟩:=x;exact Heap.lt_size e
 | ins C dx fs=>obtain⟨_,_,_,e,_⟩:=x;exact Heap.lt_size e
 | own y=>obtain⟨_,e⟩:=x;exact Heap.lt_size e
 | xd fs=>obtain⟨_,⟨_,_,_,e,_⟩,_⟩:=x;exact Heap.lt_size e
 | rng lo hi=>obtain⟨_,_,_,e⟩:=x;exact Heap.lt_size e
 | iF ob u=>obtain⟨e,_⟩:=x;exact Heap.lt_size e
 | tbl ps=>exact Heap.lt_size (show h.get? a=some _ from x)
 | met f y=>exact Heap.lt_size (show h.get? a=some _ from x)
 | ext φ=>obtain⟨_,⟨_,e⟩,_⟩:=x;exact Heap.lt_size e
theorem Paired.GW{α β:Type}{F G:α→β→Prop}:∀{l₁:List α} {l₂:List β},Paired F l₁ l₂→(∀a b,F a b→G a b)→Paired G l₁ l₂
 | _,_, .nil,_=> .nil
 | _,_, .cons r t,f=> .cons (f _ _ r) (Paired.GW t f)
theorem e_.sM(x:e_ P w H h a o)(k:∀b u,(b=a∨H b=some (.own a))→h.get? b=some u→h'.get? b=some u)
 (ho:∀b,H b=some (.own a)→H' b=some (.own a)) (ht:∀b xs,H b=some (.tup xs)→H' b=some (.tup xs)):e_ P w H' h' a o:=by
 induction o with
 | lst xs=>obtain⟨z,its,n,r,e⟩:=x;exact⟨z,its,n,r,k _ _ (.inl rfl) e⟩
 | tup xs=>obtain⟨z,its,r,ob,e,c⟩:=x;exact⟨z,its,r,ob,k _ _ (.inl rfl) e,c⟩
 | dK kvs=>obtain⟨z,y,vs,r,ob,es,ep,e,c⟩:=x;exact⟨z,y,vs,r,ob,es,ep,k _ _ (.inl rfl) e,c⟩
 | dT kvs=>
   obtain⟨z,y,xs,r,ob,es,ep,e,c⟩:=x
   exact⟨z,y,xs,Paired.GW r fun p q z=>⟨z.1,ht _ _ z.2.1,z.2.2⟩,ob,es,ep,k _ _ (.inl rfl) e,c⟩
 | set S n=>obtain⟨ob,es,ep,t,e,c⟩:=x;exact⟨ob,es,ep,t,k _ _ (.inl rfl) e,c⟩
 | ins C dx fs=>
   obtain⟨d,z,ne,e,mA,⟨od,es,ep,e2,c⟩,r⟩:=x
   exact⟨ho _ d,z,ne,k _ _ (.inl rfl) e,mA,⟨od,es,ep,k _ _ (.inr d) e2,c⟩,r⟩
 | own y=>obtain⟨ob,e⟩:=x;exact⟨ob,k _ _ (.inl rfl) e⟩
 | xd fs=>obtain⟨mA,⟨od,es,ep,e,c⟩,r⟩:=x;exact⟨mA,⟨od,es,ep,k _ _ (.inl rfl) e,c⟩,r⟩
 | rng lo hi=>obtain⟨t,u,v,e⟩:=x;exact⟨t,u,v,k _ _ (.inl rfl) e⟩
 | iF ob u ih=>obtain⟨e,q⟩:=x;exact⟨k _ _ (.inl rfl) e,ih q⟩
 | tbl ps=>
   have e:h.get? a=some {cls:= .none,data:= .fields ps}:=x
   show h'.get? a=some {cls:= .none,data:= .fields ps}
   exact k a _ (.inl rfl) e
 | met f y=>
   have e:h.get? a=some (PySem.W.methodObj (.ref f) (.ref y)):=x
   show h'.get? a=some (PySem.W.methodObj (.ref f) (.ref y))
   exact k a _ (.inl rfl) e
 | ext φ=>obtain⟨p,⟨o,e⟩,st⟩:=x;exact⟨st _ _ p fun o q=>k _ _ (.inl rfl) q,⟨o,k _ _ (.inl rfl) e⟩,st⟩
theorem lr.lt(x:lr P w H h)(e:H a=some o):a < h.objs.size:=(x a o e).lt
theorem lr.fresh(x:lr P w H h)(e:h.objs.size≤a):H a=none:=by
 cases q:H a with
 | none=>rfl
 | some u=>exact absurd (Nat.lt_of_lt_of_le (x.lt q) e) (Nat.lt_irrefl _)
theorem lr.kept(x:lr P w H h)(k:∀b u,h.get? b=some u→h'.get? b=some u):lr P w H h':=fun a o e=>
 (x a o e).sM (fun b u _ q=>k b u q) (fun _ q=>q) fun _ _ q=>q
theorem lr.laid(x:lr P w H h)(k:∀b u,h.get? b=some u→h'.get? b=some u)(hp:h.objs.size≤a)(new:e_ P w (upd H a o) h' a o):lr P w (upd H a o) h':=fun b u e=>by
 have hn:=x.fresh hp
 by_cases hb:b=a
 ·subst hb;rw [bc] at e;cases e;exact new
 ·rw[ba hb] at e
  exact(x b u e).sM (fun c v _ q=>k c v q) (fun c q=>by rw[ba (cC q hn)];exact q) fun c xs q=>by rw[ba (cC q hn)];exact q
end
noncomputable def Rd(H:Hp)(a:Addr)(u:HO):Prop:=H a=some u∨∃o,H a=some (.iF o u)
theorem Rd.ok{P:Program}{w:World}{H:Hp}{h:Heap}{a:Addr}{u:HO}(r:Rd H a u)(x:lr P w H h):e_ P w H h a u:=by
 rcases r with r | ⟨o,r⟩
 ·exact x a u r
 ·obtain⟨_,q⟩:=x a _ r
  exact q
noncomputable def HS:Option HO→Prop
 | some (.lst _)=>True
 | some (.dK _)=>True
 | some (.dT _)=>True
 | some (.set _ _)=>True
 | some (.ins _ _ _)=>True
 | some (.ext _)=>True
 | _=>False
section
variable {P:Program} {w:World} {H:Hp} {h h':Heap} {x e:Addr} {o':HO}
theorem lr.write(ok:lr P w H h)(mu:HS (H x))(he:e=x∨H e=some (.own x))(k:∀b u,b≠e→h.get? b=some u→h'.get? b=some u)(heo:∃u,h'.get? e=some u)
 (new:e_ P w (upd H x o') h' x o'):lr P w (upd H x o') h':=fun b u q=>by
 have nown:∀c y,H c=some (.own y)→c≠x:=fun c y r z=>by subst z;rw [r] at mu;exact mu
 have ntup:∀c xs,H c=some (.tup xs)→c≠x:=fun c xs r z=>by subst z;rw [r] at mu;exact mu
 by_cases hb:b=x
 ·subst hb;rw [bc] at q;cases q;exact new
 ·rw[ba hb] at q
  by_cases hbe:b=e
  ·have q':H b=some (.own x):=by
    rcases he with z | z
    ·exact absurd (hbe.trans z) hb
    ·rw[hbe];exact z
   rw[q] at q';cases q'
   obtain⟨v,hv⟩:=heo
   exact⟨v,by rw[hbe];exact hv⟩
  ·refine(ok b u q).sM (fun c v hc r=>k c v ?_ r) (fun c r=>by rw[ba (nown c b r)];exact r) fun c xs r=>by rw[ba (ntup c xs r)];exact r
   rcases hc with rfl | hc
   ·exact hbe
   ·rintro rfl
    rcases he with z | z
    ·exact nown c b hc z
    ·rw[hc] at z;cases z;exact hb rfl
end
structure Un (fs ex:List Addr) (H H':Hp) (h h':Heap):Prop where
 keep:∀b o,h.get? b=some o→H b=none→b ∉ fs→b ∉ ex→h'.get? b=some o
 slot:∀b o,h.get? b=some o→H b=none→b∈fs→b ∉ ex→∃sl,h'.get? b=some {o with slots:=sl}
 free:∀b o,h.get? b=some o→H b=none→b ∉ ex→H' b=none
 there:∀b o,h.get? b=some o→b ∉ ex→∃o',h'.get? b=some o'
 tups:∀b xs,H b=some (.tup xs)→H' b=some (.tup xs)
 frzs:∀b o u,H b=some (.iF o u)→H' b=some (.iF o u)
 tbls:∀b ps,H b=some (.tbl ps)→∃more,H' b=some (.tbl (ps++more))
section
variable {fs fs' ex ex':List Addr} {H H1 H2:Hp} {h h1 h2 h':Heap} {a x e:Addr} {o:HO}
theorem Un.any(u:Un fs ex H H1 h h1){b:Addr}{ob:Obj}(q:h.get? b=some ob)(n:H b=none)(hx:b ∉ ex):∃sl,h1.get? b=some {ob with slots:=sl}:=by
 by_cases hb:b∈fs
 ·exact u.slot b ob q n hb hx
 ·exact⟨ob.slots,u.keep b ob q n hb hx⟩
theorem Un.kept(k:∀b u,h.get? b=some u→h'.get? b=some u):Un fs ex H H h h':=
 ⟨fun b ob q _ _ _=>k b ob q,fun b ob q _ _ _=>⟨ob.slots,k b ob q⟩,fun _ _ _ n _=>n,fun b ob q _=>⟨ob,k b ob q⟩,fun _ _ q=>q,fun _ _ _ q=>q,fun _ ps q=>⟨#[],by rw[q];simp⟩⟩
theorem Un.refl:Un fs ex H H h h:=Un.kept fun _ _ q=>q
theorem Un.laid(k:∀b u,h.get? b=some u→h'.get? b=some u)(hp:h.objs.size≤a)(hn:H a=none):Un fs ex H (upd H a o) h h' where
 keep:=fun b u q _ _ _=>k b u q
 slot:=fun b u q _ _ _=>⟨u.slots,k b u q⟩
 free:=fun b u q n _=>by rw[ba (Nat.ne_of_lt (Nat.lt_of_lt_of_le (Heap.lt_size q) hp))];exact n
 there:=fun b u q _=>⟨u,k b u q⟩
 tups:=fun b xs q=>by rw[ba (cC q hn)];exact q
 frzs:=fun b u xs q=>by rw[ba (cC q hn)];exact q
 tbls:=fun b ps q=>⟨#[],by rw[ba (cC q hn),q];simp⟩
theorem Un.write(mu:HS (H x))(he:e=x∨H e=some (.own x))(k:∀b u,b≠e→h.get? b=some u→h'.get? b=some u)(heo:∃u,h'.get? e=some u):Un fs ex H (upd H x o) h h':=by
 have hx:∀b,H b=none→b≠x:=fun b n z=>by subst z;rw [n] at mu;exact mu
 have hb:∀b,H b=none→b≠e:=fun b n z=>by
  subst z
  rcases he with r | r
  ·exact hx b n r
  ·rw[n] at r;cases r
 have hm:∀b u,H b=some u→¬HS (some u)→b≠x:=fun b u q nm z=>by subst z;rw [q] at mu;exact nm mu
 refine⟨fun b u q n _ _=>k b u (hb b n) q,fun b u q n _ _=>⟨u.slots,k b u (hb b n) q⟩,fun b u q n _=>by rw[ba (hx b n)];exact n,fun b u q _=>?_,
  fun b xs q=>by rw[ba (hm b _ q fun z=>z)];exact q,fun b u xs q=>by rw[ba (hm b _ q fun z=>z)];exact q,fun b ps q=>⟨#[],by rw[ba (hm b _ q fun z=>z),q];simp⟩⟩
 by_cases hbe:b=e
 ·subst hbe;exact heo
 ·exact⟨u,k b u hbe q⟩
end
noncomputable def Ih(h:Heap)(H:Hp):List Addr:=(List.range h.objs.size).filter fun a=>(H a).isSome
noncomputable def tp(h:Heap)(H:Hp):Heap:=PySem.W.hideAll h (Ih h H)
theorem yp(h:Heap)(H:Hp):(tp h H).objs.size=h.objs.size:=PySem.W.hideAll_size _ _
theorem Ac{h:Heap}{H:Hp}{b:Addr}{o:Obj}(e:h.get? b=some o)(n:H b=none):(tp h H).get? b=some o:=
 PySem.W.hideAll_get _ e fun hm=>by
  have q:(H b).isSome=true:=(List.mem_filter.mp hm).2
  rw[n] at q;simp at q
theorem Cr{h:Heap}{H:Hp}{b:Addr}{o:Obj}(e:(tp h H).get? b=some o):h.get? b=some o∧H b=none:=by
 have e':h.get? b=some o:=PySem.W.of_hideAll (Ih h H) e
 refine⟨e',?_⟩
 cases q:H b with
 | none=>rfl
 | some x=>
   have hm:b∈Ih h H:=List.mem_filter.mpr ⟨List.mem_range.mpr (Heap.lt_size e'),by simp [q]⟩
   have z:(tp h H).get? b=none:=PySem.W.hideAll_none (Ih h H) hm
   rw[z] at e;cases e
noncomputable def Dt(g h:Heap)(L:Addr):List (Addr × Obj):=(List.range h.objs.size).filterMap fun a=>if a=L∨(g.get? a).isSome=true then none else(h.get? a).map fun o=>(a,o)
noncomputable def rest(g h:Heap)(L d:Addr):List (Addr × Obj):=(Dt g h L).filter fun p=>decide (p.1≠d)
end L2
namespace L2
open PySem PySem.Spec PyProof.Rows
structure Mod (K:PySem.W.Frag) (mg:Str→Option Value) (base:Heap):Prop where
 kin:K.In base
 glob:base.Ns mainGlobals mg
 blt:∃mb,base.Ns builtinsNs mb∧∀x:Str,x≠"__name__"→mb x=bootBuiltins x
 nolimit:base.NoLimit
structure Cx where
 prog:Program
 w:World
 K:PySem.W.Frag
 mg:Str→Option Value
 base:Heap
 A:Around
 N:List Str
 s₀:Shared
 H₀:Hp
 env:Env
 outer:List Env
 stack:List Env
 ex:List Addr
 fn:Str→Bool
 calm:Bool
 pn:List (Addr × Obj)
 xe:Value→Shared→Prop
noncomputable def zq(l:List Env):List Addr:=l.filterMap (·.frame)
noncomputable abbrev Cx.fs(X:Cx):List Addr:=zq X.outer
noncomputable def D0(sc:Scope)(x:Str):Prop:=sc.names.lookup x=some .local∨sc.names.lookup x=some .cell∨sc.names.lookup x=some .free
noncomputable def Loc(sc:Scope)(x:Str):Prop:=sc.names.lookup x=some .local∨sc.names.lookup x=some .cell
noncomputable def Look(env:Env)(h:Heap)(m:Str→Option Value)(x:Str)(u:Value):Prop:=
 (env.kindOf x=some .local∧m x=some u)∨((env.kindOf x=some .cell∨env.kindOf x=some .free)∧∃c,env.cells.lookup x=some c∧h.IsCell c (some u))
structure Cx.Ok (X:Cx):Prop where
 mod:Mod X.K X.mg X.base
 kind:X.env.scope.kind= .function
 glob:X.env.globals=mainGlobals
 blt:X.env.builtins=builtinsNs
 above:X.s₀.heap.objs.size≤X.env.locals
 inj:∀x y c,X.env.cells.lookup x=some c→X.env.cells.lookup y=some c→x=y
 has:∀x,(X.env.kindOf x=some .cell∨X.env.kindOf x=some .free)→∃c,X.env.cells.lookup x=some c
 cab:∀x c,X.fn x=true→X.env.cells.lookup x=some c→X.s₀.heap.objs.size≤c
 hd:X.calm=true→X.A.handled=none
 frames:X.A.frames=some X.stack
 stk:X.stack=X.outer∨(X.stack=X.env ::X.outer∧X.env.frame=some X.env.locals)
 exf:∀b∈X.ex,b≠X.env.locals∧∀x c,X.env.cells.lookup x=some c→c≠b
 bs:∀b o,X.base.get? b=some o→X.s₀.heap.get? b=some o∧X.H₀ b=none
 bsz:X.base.objs.size≤X.s₀.heap.objs.size
 noex:∀b o,X.base.get? b=some o→b ∉ X.ex
 exfs:∀b∈X.ex,b ∉ X.fs
 oT:X.s₀.heap.FunFrames X.base X.outer
 frf:∀b∈X.fs,X.H₀ b=none
structure Inv (X:Cx) (pins:List (Addr × Obj)) (σ:List (Option V)) (H:Hp) (s:Shared):Prop where
 ok:X.Ok
 os:s.os=X.s₀.os
 bare:AllBare s.gens
 base:Un X.fs X.ex X.H₀ H X.s₀.heap s.heap
 loc:∃m,s.heap.Ns X.env.locals m∧∀(i:Nat) (x:Str) (v:V),X.N[i]? =some x→σ[i]? =some (some v)→D0 X.env.scope x→∃u,RelV v u∧Look X.env s.heap m x u
 cell:∀x c,X.env.cells.lookup x=some c→∃v,s.heap.IsCell c v
 free:H X.env.locals=none
 freeC:∀x c,X.env.cells.lookup x=some c→H c=none
 pin:∀p∈X.pn++pins,s.heap.get? p.1=some p.2∧H p.1=none∧p.1≠X.env.locals∧p.1 ∉ X.fs∧∀v,p.2.data≠ .cell v
 hok:lr X.prog X.w H s.heap
 len:σ.length=X.N.length
section
variable {X:Cx} {pins:List (Addr × Obj)} {σ:List (Option V)} {H H':Hp} {s:Shared} {h':Heap}
theorem Cx.Ok.Iz(ok:X.Ok){b:Addr}{o:Obj}(e:X.base.get? b=some o):b ∉ X.fs:=fun hb=>by
 have:=(ok.oT.mem hb).1
 rw[e] at this;cases this
theorem Inv.bs(I:Inv X pins σ H s):∀b o,X.base.get? b=some o→s.heap.get? b=some o∧H b=none:=fun b o e=>
 ⟨I.base.keep b o (I.ok.bs b o e).1 (I.ok.bs b o e).2 (I.ok.Iz e) (I.ok.noex b o e),I.base.free b o (I.ok.bs b o e).1 (I.ok.bs b o e).2 (I.ok.noex b o e)⟩
theorem Inv.bk(I:Inv X pins σ H s):∀b o,X.base.get? b=some o→s.heap.get? b=some o:=fun b o e=>(I.bs b o e).1
theorem Inv.mod(I:Inv X pins σ H s):Mod X.K X.mg X.base:=I.ok.mod
theorem Inv.xA(I:Inv X pins σ H s):X.K.In s.heap:=I.ok.mod.kin.keeps I.bk
theorem Inv.lt(I:Inv X pins σ H s):X.env.locals < s.heap.objs.size:=let⟨_,hn,_⟩:=I.loc;hn.lt
theorem Inv.sz(I:Inv X pins σ H s):X.s₀.heap.objs.size≤s.heap.objs.size:=Nat.le_trans I.ok.above (Nat.le_of_lt I.lt)
theorem Inv.IE(I:Inv X pins σ H s){a:Addr}(h:s.heap.objs.size≤a):a ∉ X.fs:=fun hb=>by
 obtain⟨_,o,ho,_⟩:=I.ok.oT.mem hb
 exact absurd (Nat.lt_of_lt_of_le (Heap.lt_size ho) (Nat.le_trans I.sz h)) (Nat.lt_irrefl _)
theorem Inv.FF(I:Inv X pins σ H s):∀x c,X.env.cells.lookup x=some c→c≠X.env.locals:=fun x c e z=>by
 obtain⟨v,o,ho,hd⟩:=I.cell x c e
 obtain⟨m,⟨o',es,ep,ho',hd',_⟩,_⟩:=I.loc
 rw[z,ho'] at ho;cases ho;rw [hd'] at hd;cases hd
theorem Inv.oT(I:Inv X pins σ H s):s.heap.FunFrames X.base X.outer:=by
 have all:∀(l:List Env),(∀b∈zq l,b∈X.fs)→X.s₀.heap.FunFrames X.base l→s.heap.FunFrames X.base l:=by
  intro l
  induction l with
  | nil=>intro _ _;trivial
  | cons env r ih=>
    intro hs hl
    obtain⟨hk,⟨L,o,hf,hn,ho,hd⟩,hr⟩:=hl
    have hL:L∈X.fs:=hs L (by unfold zq;rw [List.filterMap_cons,hf];exact List.mem_cons_self)
    obtain⟨sl,e⟩:=I.base.slot L o ho (I.ok.frf L hL) hL fun z=>I.ok.exfs L z hL
    exact⟨hk,⟨L,_,hf,hn,e,hd⟩,ih (fun b hb=>hs b (by unfold zq;rw [List.filterMap_cons,hf];exact List.mem_cons_of_mem _ hb)) hr⟩
 exact all X.outer (fun _ hb=>hb) I.ok.oT
theorem Inv.stack(I:Inv X pins σ H s):s.heap.FunFrames X.base X.stack:=by
 rcases I.ok.stk with e | ⟨e,hf⟩
 ·rw[e];exact I.oT
 ·rw[e]
  obtain⟨m,hn,_⟩:=I.loc
  refine .cons (by rw[I.ok.kind];decide) hf hn ?_ I.oT
  exact Heap.get?_none_of_le (Nat.le_trans I.ok.bsz I.ok.above)
theorem Inv.vR(I:Inv X pins σ H s):∀b∈zq X.stack,b∈X.env.locals ::X.fs:=fun b hb=>by
 rcases I.ok.stk with e | ⟨e,hf⟩
 ·rw[e] at hb;exact List.mem_cons_of_mem _ hb
 ·rw[e] at hb
  unfold zq at hb
  rw[List.filterMap_cons,hf] at hb
  exact hb
theorem Inv.xy(I:Inv X pins σ H s):∀b∈zq X.stack,H b=none:=fun b hb=>by
 rcases List.mem_cons.mp (I.vR b hb) with e | hb
 ·rw[e];exact I.free
 ·obtain⟨_,o,ho,_⟩:=I.ok.oT.mem hb
  exact I.base.free b o ho (I.ok.frf b hb) fun z=>I.ok.exfs b z hb
theorem Inv.step{g':Array GenState}{t':Nat}{d':Drawn}{ch:List Addr}(I:Inv X pins σ H s)
 (hch:∀b∈ch,(b∈X.ex∨X.s₀.heap.objs.size≤b)∧b≠X.env.locals∧(∀x c,X.env.cells.lookup x=some c→c≠b)∧∀p∈X.pn++pins,p.1≠b)
 (keep:∀b o,b≠X.env.locals→b ∉ X.fs→b ∉ ch→s.heap.get? b=some o→H b=none→h'.get? b=some o)
 (slot:∀b o,b≠X.env.locals→b∈X.fs→b ∉ ch→s.heap.get? b=some o→H b=none→∃sl,h'.get? b=some {o with slots:=sl}) (free:∀b o,b ∉ ch→s.heap.get? b=some o→H b=none→H' b=none)
 (there:∀b o,b ∉ ch→s.heap.get? b=some o→∃o',h'.get? b=some o')
 (tups:∀b xs,H b=some (.tup xs)→H' b=some (.tup xs)) (frzs:∀b o u,H b=some (.iF o u)→H' b=some (.iF o u)) (tbls:∀b ps,H b=some (.tbl ps)→∃more,H' b=some (.tbl (ps++more)))
 (ns:∀m,s.heap.Ns X.env.locals m→h'.Ns X.env.locals m) (hok:lr X.prog X.w H' h') (hg:AllBare g') :
 Inv X pins σ H' {s with heap:=h',gens:=g',drawn:=d',toks:=t'}:=by
 have neL:∀b o,X.s₀.heap.get? b=some o→b≠X.env.locals:=fun b o e=>Nat.ne_of_lt (Nat.lt_of_lt_of_le (Heap.lt_size e) I.ok.above)
 have neC:∀b o,X.s₀.heap.get? b=some o→b ∉ X.ex→b ∉ ch:=fun b o e hx hb=>by
  rcases(hch b hb).1 with z | z
  ·exact hx z
  ·exact absurd (Nat.lt_of_lt_of_le (Heap.lt_size e) z) (Nat.lt_irrefl _)
 have cellK:∀x c,X.env.cells.lookup x=some c→∀v,s.heap.IsCell c v→h'.IsCell c v:=fun x c e v ⟨o,ho,hd⟩=>by
  have nch:c ∉ ch:=fun z=>(hch c z).2.2.1 x c e rfl
  by_cases hc:c∈X.fs
  ·obtain⟨sl,q⟩:=slot c o (I.FF x c e) hc nch ho (I.freeC x c e)
   exact⟨_,q,hd⟩
  ·exact⟨o,keep c o (I.FF x c e) hc nch ho (I.freeC x c e),hd⟩
 refine⟨I.ok,I.os,hg,⟨fun b o e n hb hx=>?_,fun b o e n hb hx=>?_,fun b o e n hx=>?_,fun b o e hx=>?_,fun b xs e=>tups b xs (I.base.tups b xs e),fun b o xs e=>frzs b o xs (I.base.frzs b o xs e),fun b ps e=>?_⟩,?_,fun x c e=>?_,?_,fun x c e=>?_,fun p hp=>?_,hok,I.len⟩
 ·exact keep b o (neL b o e) hb (neC b o e hx) (I.base.keep b o e n hb hx) (I.base.free b o e n hx)
 ·obtain⟨sl,e1⟩:=I.base.slot b o e n hb hx
  obtain⟨sl',e2⟩:=slot b _ (neL b o e) hb (neC b o e hx) e1 (I.base.free b o e n hx)
  exact⟨sl',e2⟩
 ·obtain⟨o',e1⟩:=I.base.there b o e hx
  exact free b o' (neC b o e hx) e1 (I.base.free b o e n hx)
 ·obtain⟨o',e1⟩:=I.base.there b o e hx
  exact there b o' (neC b o e hx) e1
 ·obtain⟨m1,e1⟩:=I.base.tbls b ps e
  obtain⟨m2,e2⟩:=tbls b _ e1
  exact⟨m1++m2,by rw[e2,Array.append_assoc]⟩
 ·obtain⟨m,hn,hl⟩:=I.loc
  refine⟨m,ns m hn,fun i x v e1 e2 e3=>?_⟩
  obtain⟨u,r,l⟩:=hl i x v e1 e2 e3
  refine⟨u,r,?_⟩
  rcases l with l | ⟨k,c,e,z⟩
  ·exact .inl l
  ·exact .inr ⟨k,c,e,cellK x c e _ z⟩
 ·obtain⟨v,z⟩:=I.cell x c e
  exact⟨v,cellK x c e v z⟩
 ·obtain⟨m,⟨o,_,_,ho,_⟩,_⟩:=I.loc
  exact free _ o (fun z=>(hch _ z).2.1 rfl) ho I.free
 ·obtain⟨v,o,ho,hd⟩:=I.cell x c e
  exact free c o (fun z=>(hch c z).2.2.1 x c e rfl) ho (I.freeC x c e)
 ·obtain⟨e,n,ne,nf,d⟩:=I.pin p hp
  have nch:p.1 ∉ ch:=fun z=>(hch p.1 z).2.2.2 p hp rfl
  exact⟨keep p.1 p.2 ne nf nch e n,free p.1 p.2 nch e n,ne,nf,d⟩
theorem Inv.un{t':Nat}(I:Inv X pins σ H s)(u:Un X.fs [] H H' s.heap h')(hok:lr X.prog X.w H' h'):Inv X pins σ H' {s with heap:=h',toks:=t'}:=by
 obtain⟨m,⟨o,es,ep,ho,r⟩,_⟩:=id I.loc
 obtain⟨sl,hL⟩:=u.any ho I.free (by simp)
 exact I.step (g':=s.gens) (d':=s.drawn) (ch:=[]) (fun _ z=>nomatch z) (fun b o _ hb _ e n=>u.keep b o e n hb (by simp)) (fun b o _ hb _ e n=>u.slot b o e n hb (by simp)) (fun b o _ e n=>u.free b o e n (by simp)) (fun b o _ e=>u.there b o e (by simp)) u.tups u.frzs u.tbls (fun m' hm=>by
  obtain⟨o',es',ep',ho',r'⟩:=hm
  rw[ho] at ho';cases ho'
  exact⟨_,es',ep',hL,r'⟩) hok I.bare
theorem Inv.call{g':Array GenState}{t':Nat}{d':Drawn}{ch:List Addr}(I:Inv X pins σ H s)(u:Un (zq X.stack) ch H H' s.heap h')(hok:lr X.prog X.w H' h')(hg:AllBare g')
 (hch:∀b∈ch,(b∈X.ex∨X.s₀.heap.objs.size≤b)∧b≠X.env.locals∧(∀x c,X.env.cells.lookup x=some c→c≠b)∧∀p∈X.pn++pins,p.1≠b) :
 Inv X pins σ H' {s with heap:=h',gens:=g',drawn:=d',toks:=t'}:=by
 obtain⟨m,⟨o,es,ep,ho,r⟩,_⟩:=id I.loc
 obtain⟨sl,hL⟩:=u.any ho I.free fun z=>(hch _ z).2.1 rfl
 exact I.step (ch:=ch) hch (fun b o hL hb hc e n=>u.keep b o e n (fun z=>(List.mem_cons.mp (I.vR b z)).elim hL hb) hc) (fun b o _ _ hc e n=>u.any e n hc) (fun b o hc e n=>u.free b o e n hc) (fun b o hc e=>u.there b o e hc) u.tups u.frzs u.tbls (fun m' hm=>by
  obtain⟨o',es',ep',ho',r'⟩:=hm
  rw[ho] at ho';cases ho'
  exact⟨_,es',ep',hL,r'⟩) hok hg
theorem Inv.turned{t':Nat}{it:Addr}(I:Inv X pins σ H s)(k:∀b o,b≠it→s.heap.get? b=some o→h'.get? b=some o)(hn:H it=none)(hL:it≠X.env.locals)
 (h1:it∈X.ex∨X.s₀.heap.objs.size≤it) (h2:∀x c,X.env.cells.lookup x=some c→c≠it) (h3:∀p∈X.pn++pins,p.1≠it):Inv X pins σ H {s with heap:=h',toks:=t'}:=by
 have nit:∀b u,H b=some u→b≠it:=fun b u e z=>by rw[z,hn] at e;cases e
 refine I.step (g':=s.gens) (d':=s.drawn) (ch:=[it]) (fun b hb=>?_) (fun b o _ _ hc e _=>k b o (fun z=>hc (by simp [z])) e) (fun b o _ _ hc e _=>⟨o.slots,k b o (fun z=>hc (by simp [z])) e⟩) (fun _ _ _ _ n=>n)
  (fun b o hc e=>⟨o,k b o (fun z=>hc (by simp [z])) e⟩) (fun _ _ e=>e) (fun _ _ _ e=>e) (fun b ps e=>⟨#[],by rw[e];simp⟩) (fun m hm=>?_) (fun b u e=>?_) I.bare
 ·have e:b=it:=by simpa using hb
  subst e
  exact⟨h1,hL,h2,h3⟩
 ·obtain⟨o,es,ep,ho,r⟩:=hm
  exact⟨o,es,ep,k _ o (Ne.symm hL) ho,r⟩
 ·refine(I.hok b u e).sM (fun c v hc q=>k c v ?_ q) (fun _ q=>q) fun _ _ q=>q
  rcases hc with z | z
  ·rw[z];exact nit b u e
  ·exact nit c _ z
theorem Inv.tok(I:Inv X pins σ H s)(t:Nat):Inv X pins σ H {s with toks:=t}:=I.un (h':=s.heap) (t':=t) Un.refl I.hok
theorem Inv.kept{t':Nat}(I:Inv X pins σ H s)(k:∀b u,s.heap.get? b=some u→h'.get? b=some u):Inv X pins σ H {s with heap:=h',toks:=t'}:=I.un (Un.kept k) (I.hok.kept k)
theorem Inv.laid{a:Addr}{o:HO}{t':Nat}(I:Inv X pins σ H s)(k:∀b u,s.heap.get? b=some u→h'.get? b=some u)(hp:s.heap.objs.size≤a)(new:e_ X.prog X.w (upd H a o) h' a o) :
 Inv X pins σ (upd H a o) {s with heap:=h',toks:=t'}:=I.un (Un.laid k hp (I.hok.fresh hp)) (I.hok.laid k hp new)
theorem Inv.write{x e:Addr}{o:HO}{t':Nat}(I:Inv X pins σ H s)(mu:HS (H x))(he:e=x∨H e=some (.own x))(k:∀b u,b≠e→s.heap.get? b=some u→h'.get? b=some u)(heo:∃u,h'.get? e=some u)
 (new:e_ X.prog X.w (upd H x o) h' x o):Inv X pins σ (upd H x o) {s with heap:=h',toks:=t'}:=I.un (Un.write mu he k heo) (I.hok.write mu he k heo new)
theorem Inv.xW{pins':List (Addr × Obj)}(I:Inv X pins σ H s)(h:∀p∈pins',s.heap.get? p.1=some p.2∧H p.1=none∧p.1≠X.env.locals∧p.1 ∉ X.fs∧∀v,p.2.data≠ .cell v):Inv X pins' σ H s:=
 ⟨I.ok,I.os,I.bare,I.base,I.loc,I.cell,I.free,I.freeC,fun p hp=>(List.mem_append.mp hp).elim (fun z=>I.pin p (List.mem_append_left _ z)) (h p),I.hok,I.len⟩
theorem uI{N:List Str}(hN:N.Nodup){i j:Nat}{x:Str}(a:N[i]? =some x)(b:N[j]? =some x):i=j:=by
 obtain⟨h1,e1⟩:=List.getElem?_eq_some_iff.mp a
 obtain⟨h2,e2⟩:=List.getElem?_eq_some_iff.mp b
 exact(List.getElem_inj hN).mp (e1.trans e2.symm)
theorem qU{M:Model}{A:Around}{E:Value→Shared→Prop}{i:Nat}{x:Str}{v:V}{u:Value}{Q:Unit→Shared→Prop}(I:Inv X pins σ H s)(hN:X.N.Nodup)(hi:X.N[i]? =some x)(hx:Loc X.env.scope x)(r:RelV v u)
 (h:∀s',Inv X pins (σ.set i (some v)) H s'→(∃a,Heap.SameBut a s.heap s'.heap∧(a=X.env.locals∨X.env.cells.lookup x=some a))→Q () s') (hf:X.fn x=true∨X.env.scope.names.lookup x=some .local:=by first | exact .inl rfl | exact .inr rfl | assumption):wpAny M A (storeName X.env x u) Q E s:=by
 obtain⟨m,hn,hl⟩:=id I.loc
 have hcls:(X.env.scope.kind== .class || (X.env.scope.kind== .module && X.env.locals !=X.env.globals))=false:=by rw[I.ok.kind];rfl
 have hiσ:i < σ.length:=by rw[I.len];exact(List.getElem?_eq_some_iff.mp hi).1
 have FF:=I.FF
 have tracked:∀{a:Addr} {h':Heap},(∃o,s.heap.get? a=some o∧H a=none)→Heap.SameBut a s.heap h'→lr X.prog X.w H h':=fun {a h'} ha hs b ob e=>by
  obtain⟨_,_,hfree⟩:=ha
  refine(I.hok b ob e).sM (fun c w' hc q=>(hs.2 c ?_).trans q) (fun _ q=>q) fun _ _ q=>q
  rintro rfl
  rcases hc with rfl | hc
  ·rw[hfree] at e;cases e
  ·rw[hfree] at hc;cases hc
 rcases hx with hk | hk
 ·refine wpAny_storeName_local hk hn (fun h' hn' hs=>?_) hcls
  obtain⟨oL,_,_,hoL,_⟩:=id hn
  refine h _ ⟨I.ok,I.os,I.bare,⟨fun b o e n hb hx=>?_,fun b o e n hb hx=>?_,I.base.free,fun b o e hx=>?_,I.base.tups,I.base.frzs,I.base.tbls⟩,⟨_,hn',fun j y v' e1 e2 e3=>?_⟩,fun y c e=>?_,I.free,I.freeC,fun p hp=>?_,tracked ⟨oL,hoL,I.free⟩ hs,by simpa using I.len⟩ ⟨_,hs, .inl rfl⟩
  ·exact(hs.2 b (Nat.ne_of_lt (Nat.lt_of_lt_of_le (Heap.lt_size e) I.ok.above))).trans (I.base.keep b o e n hb hx)
  ·obtain⟨sl,e1⟩:=I.base.slot b o e n hb hx
   exact⟨sl,(hs.2 b (Nat.ne_of_lt (Nat.lt_of_lt_of_le (Heap.lt_size e) I.ok.above))).trans e1⟩
  ·obtain⟨o',e1⟩:=I.base.there b o e hx
   exact⟨o',(hs.2 b (Nat.ne_of_lt (Nat.lt_of_lt_of_le (Heap.lt_size e) I.ok.above))).trans e1⟩
  ·by_cases hj:j=i
   ·subst hj
    rw[hi] at e1;cases e1
    rw[List.getElem?_set_self hiσ] at e2
    cases e2
    exact⟨u,r, .inl ⟨hk,by simp⟩⟩
   ·rw[List.getElem?_set_ne (Ne.symm hj)] at e2
    obtain⟨u',r',q⟩:=hl j y v' e1 e2 e3
    refine⟨u',r',?_⟩
    rcases q with⟨k,e⟩ | ⟨k,c,e,z⟩
    ·refine .inl ⟨k,?_⟩
     have:y≠x:=fun e=>hj (uI hN e1 (e▸hi))
     simp [this,e]
    ·exact .inr ⟨k,c,e,z.sameBut hs (FF y c e)⟩
  ·obtain⟨w',z⟩:=I.cell y c e
   exact⟨w',z.sameBut hs (FF y c e)⟩
  ·obtain⟨e,n,ne,nf,d⟩:=I.pin p hp
   exact⟨(hs.2 p.1 ne).trans e,n,ne,nf,d⟩
 ·have hfn:X.fn x=true:=by
   rcases hf with z | z
   ·exact z
   ·rw[z] at hk;cases hk
  obtain⟨c,hc⟩:=I.ok.has x (.inl hk)
  obtain⟨w',z⟩:=I.cell x c hc
  refine wpAny_storeName_cell I.ok.kind hk hc z (fun h' hc' hs=>?_)
  obtain⟨oc,hoc,hocd⟩:=id z
  refine h {s with heap:=h'} ⟨I.ok,I.os,I.bare,⟨fun b o e n hb hx=>?_,fun b o e n hb hx=>?_,I.base.free,fun b o e hx=>?_,I.base.tups,I.base.frzs,I.base.tbls⟩,⟨m,hn.sameBut hs (Ne.symm (FF x c hc)),fun j y v' e1 e2 e3=>?_⟩,fun y c' e=>?_,I.free,I.freeC,fun p hp=>?_,tracked ⟨oc,hoc,I.freeC x c hc⟩ hs,by simpa using I.len⟩ ⟨c,hs, .inr hc⟩
  ·exact(hs.2 b (Nat.ne_of_lt (Nat.lt_of_lt_of_le (Heap.lt_size e) (I.ok.cab x c hfn hc)))).trans (I.base.keep b o e n hb hx)
  ·obtain⟨sl,e1⟩:=I.base.slot b o e n hb hx
   exact⟨sl,(hs.2 b (Nat.ne_of_lt (Nat.lt_of_lt_of_le (Heap.lt_size e) (I.ok.cab x c hfn hc)))).trans e1⟩
  ·obtain⟨o',e1⟩:=I.base.there b o e hx
   exact⟨o',(hs.2 b (Nat.ne_of_lt (Nat.lt_of_lt_of_le (Heap.lt_size e) (I.ok.cab x c hfn hc)))).trans e1⟩
  ·by_cases hj:j=i
   ·subst hj
    rw[hi] at e1;cases e1
    rw[List.getElem?_set_self hiσ] at e2
    cases e2
    exact⟨u,r, .inr ⟨.inl hk,c,hc,hc'⟩⟩
   ·rw[List.getElem?_set_ne (Ne.symm hj)] at e2
    obtain⟨u',r',q⟩:=hl j y v' e1 e2 e3
    refine⟨u',r',?_⟩
    rcases q with q | ⟨k,c',e,z'⟩
    ·exact .inl q
    ·refine .inr ⟨k,c',e,z'.sameBut hs ?_⟩
     rintro rfl
     exact hj (uI hN e1 (I.ok.inj _ _ _ e hc▸hi))
  ·by_cases hcc:c'=c
   ·subst hcc;exact⟨_,hc'⟩
   ·obtain⟨w2,z2⟩:=I.cell y c' e
    exact⟨w2,z2.sameBut hs hcc⟩
  ·obtain⟨e,n,ne,nf,d⟩:=I.pin p hp
   refine⟨(hs.2 p.1 ?_).trans e,n,ne,nf,d⟩
   intro q
   rw[q,hoc] at e
   have q':oc=p.2:=Option.some.inj e
   exact d w' (by rw[←q'];exact hocd)
theorem tL{M:Model}{A:Around}{E:Value→Shared→Prop}{i:Nat}{x:Str}{v:V}{u:Value}{Q:Unit→Shared→Prop}(I:Inv X pins σ H s)(hN:X.N.Nodup)(hi:X.N[i]? =some x)(hx:Loc X.env.scope x)(r:RelV v u)
 (h:∀s',Inv X pins (σ.set i (some v)) H s'→Q () s') (hf:X.fn x=true∨X.env.scope.names.lookup x=some .local:=by first | exact .inl rfl | exact .inr rfl | assumption):wpAny M A (storeName X.env x u) Q E s:=
 qU I hN hi hx r (fun s' I' _=>h s' I') hf
theorem Inv.Hm{s':Shared}{ch:List Addr}(I:Inv X pins σ H s)(ho:s'.os=s.os)(u:Un (zq X.stack) ch H H' s.heap s'.heap)(hok:lr X.prog X.w H' s'.heap)(hg:AllBare s'.gens)
 (hch:∀b∈ch,(b∈X.ex∨X.s₀.heap.objs.size≤b)∧b≠X.env.locals∧(∀x c,X.env.cells.lookup x=some c→c≠b)∧∀p∈X.pn++pins,p.1≠b):Inv X pins σ H' s':=by
 obtain⟨h',g',d',t',o'⟩:=s'
 have e:o'=s.os:=ho
 subst e
 exact I.call (g':=g') (t':=t') (d':=d') u hok hg hch
end
noncomputable abbrev XK:=Value→Option Addr→Hp→Prop
noncomputable abbrev St:=List (Option V)
noncomputable abbrev VK:=V→Hp→Prop
noncomputable abbrev TE:=St→Hp→VK→Prop
noncomputable abbrev TT:=St→Hp→(Bool→Hp→Prop)→Prop
noncomputable abbrev TA:=St→Hp→(List V→Hp→Prop)→Prop
structure Ends where
 nx:St→Hp→Prop
 rt:VK
 bk:St→Hp→Prop:=fun _ _=>False
 ct:St→Hp→Prop:=fun _ _=>False
noncomputable abbrev TS:=Ends→St→Hp→Prop
noncomputable def EP(X:Cx)(pins:List (Addr × Obj))(σ:St)(Q:VK)(u:Value)(s':Shared):Prop:=∃v H',Inv X pins σ H' s'∧RelV v u∧Q v H'
noncomputable def TP(X:Cx)(pins:List (Addr × Obj))(σ:St)(Q:Bool→Hp→Prop)(b:Bool)(s':Shared):Prop:=∃H',Inv X pins σ H' s'∧Q b H'
noncomputable def AP(X:Cx)(pins:List (Addr × Obj))(σ:St)(Q:List V→Hp→Prop)(us:List Value)(s':Shared):Prop:=∃vs H',Inv X pins σ H' s'∧Vals vs us∧Q vs H'
noncomputable def SP(X:Cx)(pins:List (Addr × Obj))(D:Ends)(f:Flow)(s':Shared):Prop:=
 match f with
 | .next=>∃σ' H',Inv X pins σ' H' s'∧D.nx σ' H'
 | .brk=>∃σ' H',Inv X pins σ' H' s'∧D.bk σ' H'
 | .cont=>∃σ' H',Inv X pins σ' H' s'∧D.ct σ' H'
 | .ret u=>∃v σ' H',Inv X pins σ' H' s'∧RelV v u∧D.rt v H'
noncomputable def PE(X:Cx)(e:Expr)(t:TE):Prop:=
 ∀(pins:List (Addr × Obj)) (s:Shared) (σ:St) (H:Hp) (Q:VK),Inv X pins σ H s→t σ H Q→wpAny (model X.prog X.w) X.A (eval e X.env) (EP X pins σ Q) X.xe s
noncomputable def PT(X:Cx)(e:Expr)(t:TT):Prop:=
 ∀(pins:List (Addr × Obj)) (s:Shared) (σ:St) (H:Hp) (Q:Bool→Hp→Prop),Inv X pins σ H s→t σ H Q→wpAny (model X.prog X.w) X.A (isTrue e X.env (eval e X.env)) (TP X pins σ Q) X.xe s
noncomputable def PW(X:Cx)(e:Expr)(t:TT):Prop:=
 ∀(whole:Sem Value) (pins:List (Addr × Obj)) (s:Shared) (σ:St) (H:Hp) (Q:Bool→Hp→Prop),Inv X pins σ H s→t σ H Q→wpAny (model X.prog X.w) X.A (isTrue e X.env whole) (TP X pins σ Q) X.xe s
theorem PW.pt{X:Cx}{e:Expr}{t:TT}(h:PW X e t):PT X e t:=h _
noncomputable def PA(X:Cx)(es:List Expr)(t:TA):Prop:=
 ∀(pos:Pos) (pins:List (Addr × Obj)) (s:Shared) (σ:St) (H:Hp) (Q:List V→Hp→Prop),Inv X pins σ H s→t σ H Q→wpAny (model X.prog X.w) X.A (spliced (backTo pos (starEach es X.env))) (AP X pins σ Q) X.xe s
noncomputable def PS(X:Cx)(st:Stmt)(t:TS):Prop:=
 ∀(pins:List (Addr × Obj)) (s:Shared) (σ:St) (H:Hp) (D:Ends),Inv X pins σ H s→t D σ H→wpAny (model X.prog X.w) X.A (exec st X.env) (SP X pins D) X.xe s
noncomputable def sE(X:Cx)(st:List Stmt)(t:TS):Prop:=
 ∀(pins:List (Addr × Obj)) (s:Shared) (σ:St) (H:Hp) (D:Ends),Inv X pins σ H s→t D σ H→wpAny (model X.prog X.w) X.A (execs st X.env) (SP X pins D) X.xe s
theorem d5{α:Type}{t:Sem α}{Q Q':α→Shared→Prop}{M:Model}{A:Around}{E:Value→Shared→Prop}{s:Shared}(h:wpAny M A t Q E s)(hQ:∀a s,Q a s→Q' a s):wpAny M A t Q' E s:=wpAny_mono h hQ fun _ _ x=>x
end L2
namespace L2
open PySem PySem.Spec PyProof.Rows
section
variable {X:Cx}
noncomputable def Jf(i:Nat):TE:=fun σ H Q=>∃v,σ[i]? =some (some v)∧Q v H
noncomputable def tC(v:V):TE:=fun _ H Q=>Q v H
theorem sg{i:Nat}{x:Str}{pos:Pos}(hN:X.N[i]? =some x)(hv:D0 X.env.scope x)(hd:(x==("__debug__":Str))=false:=by decide)(hcd:(x==("__classdict__":Str))=false:=by decide):PE X (.Name x pos) (Jf i):=by
 intro pins s σ H Q I h
 obtain⟨v,e,h⟩:=h
 obtain⟨m,hn,hl⟩:=I.loc
 obtain⟨u,r,l⟩:=hl i x v hN e hv
 have fin:EP X pins σ Q u s:=⟨v,H,I,r,h⟩
 rcases l with⟨hk,hm⟩ | ⟨hk,c,hc,hcell⟩
 ·exact wpAny_Name (wpAny_loadName_local I.ok.kind hk hn hm fin) hd
 ·rcases hk with hk | hk
  ·exact wpAny_Name (wpAny_loadName_cell I.ok.kind hk hc hcell fin) hd
  ·exact wpAny_Name (wpAny_loadName_free I.ok.kind hk hc hcell fin hcd) hd
theorem pV{i j pos}:PE X (.Constant (.int i) j pos) (tC (.int i)):=fun _ _ _ H _ I h=>wpAny_Constant_int ⟨.int i,H,I.tok _,⟨_,rfl⟩,h⟩
theorem GY{b j pos}:PE X (.Constant (.bool b) j pos) (tC (.bl b)):=fun _ _ _ H _ I h=>Constant_bool ⟨.bl b,H,I,rfl,h⟩
theorem Gy{j pos}:PE X (.Constant .none j pos) (tC .dk):=fun _ _ _ H _ I h=>Constant_none ⟨.dk,H,I,rfl,h⟩
theorem pF{x j pos}:PE X (.Constant (.str x) j pos) (tC (.str x)):=fun _ _ _ H _ I h=>Calls.Constant_str ⟨.str x,H,I.tok _,⟨_,rfl⟩,h⟩
noncomputable def Gl(X:Cx)(x:Str):Prop:=X.env.kindOf x=some .globalImplicit
theorem xv{E:Value→Shared→Prop}{pins:List (Addr × Obj)}{s:Shared}{σ:St}{H:Hp}{x:Str}{u:Value}{pos:Pos}{Q:Value→Shared→Prop}(I:Inv X pins σ H s)(hg:Gl X x)(hm:X.mg x=some u)(h:Q u s)
 (hd:(x==("__debug__":Str))=false:=by decide):wpAny (model X.prog X.w) X.A (eval (.Name x pos) X.env) Q E s:=
 Calls.Name_function_global I.ok.kind hg (Calls.loadGlobal_global (by rw[I.ok.glob];exact I.mod.glob.keeps I.bk) hm h) hd
theorem j0{E:Value→Shared→Prop}{pins:List (Addr × Obj)}{s:Shared}{σ:St}{H:Hp}{x:Str}{u:Value}{pos:Pos}{Q:Value→Shared→Prop}(I:Inv X pins σ H s)(hg:Gl X x)(hm:X.mg x=none)(hv:bootBuiltins x=some u)(h:Q u s)
 (hn:x≠"__name__":=by decide) (hd:(x==("__debug__":Str))=false:=by decide):wpAny (model X.prog X.w) X.A (eval (.Name x pos) X.env) Q E s:=by
 obtain⟨mb,h1,h2⟩:=I.mod.blt
 exact Calls.Name_function_global I.ok.kind hg (Calls.loadGlobal_builtin (by rw[I.ok.glob];exact I.mod.glob.keeps I.bk) hm (by rw[I.ok.blt];exact h1.keeps I.bk) ((h2 x hn).trans hv) h) hd
noncomputable def Ii(ta tb:TE)(k:Int→Int→Hp→Prop):St→Hp→Prop:=fun σ H=>ta σ H fun x H1=>tb σ H1 fun y H2=>∃i j,x= .int i∧y= .int j∧k i j H2
noncomputable def Lg(ta tb:TE):TE:=fun σ H Q=>Ii ta tb (fun i j H2=>Q (.int (i+j)) H2) σ H
noncomputable def Lw(ta tb:TE):TE:=fun σ H Q=>Ii ta tb (fun i j H2=>Q (.int (i - j)) H2) σ H
noncomputable def LC(ta tb:TE):TE:=fun σ H Q=>Ii ta tb (fun i j H2=>(-(2 ^ 64) < i∧i < 2 ^ 64)∧Q (.int (i*j)) H2) σ H
variable {a b:Expr} {ta tb:TE} {pos:Pos}
noncomputable def PC(X:Cx)(op:CmpOp)(a b:Expr)(t:TE):Prop:=
 ∀(pins:List (Addr × Obj)) (s:Shared) (σ:St) (H:Hp) (Q:VK),Inv X pins σ H s→t σ H Q→
  wpAny (model X.prog X.w) X.A (eval a X.env) (fun v s₁=>wpAny (model X.prog X.w) X.A (eval b X.env) (fun u s₂=>wpAny (model X.prog X.w) X.A (compareOp op v u) (EP X pins σ Q) X.xe s₂) X.xe s₁) X.xe s
noncomputable def yE(p:Int→Int→Bool)(ta tb:TE):TE:=fun σ H Q=>Ii ta tb (fun i j H2=>Q (.bl (p i j)) H2) σ H
noncomputable abbrev L1:TE→TE→TE:=yE fun i j=>decide (i < j)
noncomputable abbrev L5:TE→TE→TE:=yE fun i j=>decide (i≤j)
noncomputable abbrev L0:TE→TE→TE:=yE fun i j=>decide (j < i)
noncomputable abbrev L9:TE→TE→TE:=yE fun i j=>decide (j≤i)
noncomputable abbrev Ls:TE→TE→TE:=yE fun i j=>decide (i=j)
noncomputable abbrev LH:TE→TE→TE:=yE fun i j=>!decide (i=j)
noncomputable def KR(ta:TE):TE:=fun σ H Q=>ta σ H fun x H1=>Q (.bl (decide (x= .dk))) H1
noncomputable def JP(ta:TE):TE:=fun σ H Q=>ta σ H fun x H1=>Q (.bl (!decide (x= .dk))) H1
noncomputable def tB(t:TE):TT:=fun σ H Q=>t σ H fun x H1=>∃c,x= .bl c∧Q c H1
variable {tA tB':TT} {rest:List Expr}
noncomputable def JH(t u:TT):TT:=fun σ H Q=>t σ H fun c H1=>if c=true then u σ H1 Q else Q false H1
noncomputable def K5(t u:TT):TT:=fun σ H Q=>t σ H fun c H1=>if c=true then Q true H1 else u σ H1 Q
noncomputable def Jv(t:TT):TT:=fun σ H Q=>t σ H fun c H1=>Q (!c) H1
theorem B8(ha:PT X a tA):PW X (.BoolOp .And [a] pos) tA:=by
 intro wh pins s σ H Q I h
 refine isTrue_and (d5 (ha pins s σ H Q I h) fun c s1 e=>?_)
 cases c with
 | true=>exact isTrue_and_nil e
 | false=>exact e
theorem A8(ha:PT X a tA):PW X (.BoolOp .Or [a] pos) tA:=by
 intro wh pins s σ H Q I h
 refine isTrue_or (d5 (ha pins s σ H Q I h) fun c s1 e=>?_)
 cases c with
 | false=>exact isTrue_or_nil e
 | true=>exact e
theorem EU(ha:PT X a tA)(hb:PW X (.BoolOp .And (b ::rest) pos) tB'):PW X (.BoolOp .And (a ::b ::rest) pos) (JH tA tB'):=by
 intro wh pins s σ H Q I h
 refine isTrue_and (d5 (ha pins s σ H _ I h) fun c s1 ⟨H1,I1,q1⟩=>?_)
 cases c with
 | true=>exact hb wh pins s1 σ H1 Q I1 q1
 | false=>exact⟨H1,I1,q1⟩
theorem D2(ha:PT X a tA)(hb:PW X (.BoolOp .Or (b ::rest) pos) tB'):PW X (.BoolOp .Or (a ::b ::rest) pos) (K5 tA tB'):=by
 intro wh pins s σ H Q I h
 refine isTrue_or (d5 (ha pins s σ H _ I h) fun c s1 ⟨H1,I1,q1⟩=>?_)
 cases c with
 | true=>exact⟨H1,I1,q1⟩
 | false=>exact hb wh pins s1 σ H1 Q I1 q1
theorem FP(ha:PT X a tA):PT X (.UnaryOp .Not a pos) (Jv tA):=by
 intro pins s σ H Q I h
 exact isTrue_not (ha pins s σ H (fun c H1=>Q (!c) H1) I h)
noncomputable def J4(ta tb:TE):TE:=fun σ H Q=>ta σ H fun x H1=>∃c,x= .bl c∧if c=true then tb σ H1 Q else Q (.bl false) H1
noncomputable def K9(ta tb:TE):TE:=fun σ H Q=>ta σ H fun x H1=>∃c,x= .bl c∧if c=true then Q (.bl true) H1 else tb σ H1 Q
noncomputable def J_(ta:TE):TE:=fun σ H Q=>ta σ H fun x H1=>∃c,x= .bl c∧Q (.bl (!c)) H1
noncomputable def Ly(t:TT)(ta tb:TE):TE:=fun σ H Q=>t σ H fun c H1=>if c=true then ta σ H1 Q else tb σ H1 Q
theorem Ad{c:Expr}(hc:PT X c tA)(ha:PE X a ta)(hb:PE X b tb):PE X (.IfExp c a b pos) (Ly tA ta tb):=by
 intro pins s σ H Q I h
 refine wpAny_IfExp (d5 (hc pins s σ H _ I h) fun d s1 ⟨H1,I1,q1⟩=>?_)
 cases d with
 | true=>exact ha pins s1 σ H1 Q I1 q1
 | false=>exact hb pins s1 σ H1 Q I1 q1
end
end L2
namespace L2
open PySem PySem.Spec PyProof.Rows
noncomputable def mD(K:PySem.W.Frag)(H:Hp)(a:Addr)(xs:List V):Prop:=
 Rd H a (.lst xs)∨
  ∃(o:Obj) (its:Array Value) (n:Nat),K.lookup a=some o∧o.cls= .type "list"∧o.dict=none∧o.data= .seq its n∧its.size≤sizeLine∧Vals xs its.toList
noncomputable def oO(K:PySem.W.Frag)(H:Hp)(a:Addr)(xs:List V):Prop:=
 Rd H a (.tup xs)∨
  ∃(o:Obj) (its:Array Value) (n:Nat),K.lookup a=some o∧o.cls= .type "tuple"∧o.data= .seq its n∧its.size≤sizeLine∧Vals xs its.toList
noncomputable def JC:Value→Option V
 | .none=>some .dk
 | .bool b=>some (.bl b)
 | .int i _=>some (.int i)
 | .str x _=>some (.str x)
 | .bytes b _=>some (.byt b)
 | .float b _=>some (.flt b)
 | .ref a=>some (.ref a)
 | .type n=>some (.ty n)
 | _=>none
theorem RelV.abs{x:V}{u:Value}(r:RelV x u):JC u=some x:=by
 cases x with
 | dk=>cases r;rfl
 | bl _=>cases r;rfl
 | int _=>obtain⟨t,rfl⟩:=r;rfl
 | str _=>obtain⟨t,rfl⟩:=r;rfl
 | byt _=>obtain⟨t,rfl⟩:=r;rfl
 | flt _=>obtain⟨t,rfl⟩:=r;rfl
 | ref _=>cases r;rfl
 | ty _=>cases r;rfl
theorem RelV.inj{x y:V}{u:Value}(r:RelV x u)(q:RelV y u):x=y:=Option.some.inj (r.abs.symm.trans q.abs)
theorem Vals.inj:∀{xs ys:List V} {us:List Value},Vals xs us→Vals ys us→xs=ys
 | _,_,_, .nil, .nil=>rfl
 | _,_,_, .cons r t, .cons r' t'=>by rw[r.inj r',Vals.inj t t']
section
variable {X:Cx} {pins:List (Addr × Obj)} {σ:St} {H:Hp} {s:Shared} {a:Addr} {xs ys:List V}
theorem mD.of{K:PySem.W.Frag}(h:H a=some (.lst xs)):mD K H a xs:= .inl (.inl h)
theorem Inv.list(I:Inv X pins σ H s)(h:mD X.K H a xs):∃its:List Value,Vals xs its∧PlainL s.heap a its.toArray∧xs.length≤sizeLine:=by
 rcases h with h | ⟨o,its,n,hk,hc,hd,hs,hz,r⟩
 ·obtain⟨z,its,n,r,e⟩:=h.ok I.hok
  exact⟨its,r,⟨_,n,e,rfl,rfl,rfl⟩,z⟩
 ·refine⟨its.toList,r,⟨o,n,I.xA a o hk,hc,hd,by simpa using hs⟩,?_⟩
  have e:=r.length
  simp only[Array.length_toList] at e
  omega
theorem Inv.tuple(I:Inv X pins σ H s)(h:oO X.K H a xs):∃its:List Value,Vals xs its∧IsTup s.heap a its.toArray∧xs.length≤sizeLine:=by
 rcases h with h | ⟨o,its,n,hk,hc,hs,hz,r⟩
 ·obtain⟨z,its,r,p⟩:=h.ok I.hok
  exact⟨its,r,p,z⟩
 ·refine⟨its.toList,r,⟨o,I.xA a o hk,hc,n,by simpa using hs⟩,?_⟩
  have e:=r.length
  simp only[Array.length_toList] at e
  omega
theorem Inv.ng(I:Inv X pins σ H s)(h:mD X.K H a xs)(h':mD X.K H a ys):xs=ys:=by
 obtain⟨its,r,⟨o,n,e,_,_,d⟩,_⟩:=I.list h
 obtain⟨its',r',⟨o',n',e',_,_,d'⟩,_⟩:=I.list h'
 rw[e] at e';cases e'
 rw[d] at d'
 injection d' with d1 _
 have:its=its':=by simpa using congrArg Array.toList d1
 subst this
 exact r.inj r'
theorem Inv.nO(I:Inv X pins σ H s)(h:oO X.K H a xs)(h':oO X.K H a ys):xs=ys:=by
 obtain⟨its,r,⟨o,e,_,n,d⟩,_⟩:=I.tuple h
 obtain⟨its',r',⟨o',e',_,n',d'⟩,_⟩:=I.tuple h'
 rw[e] at e';cases e'
 rw[d] at d'
 injection d' with d1 _
 have:its=its':=by simpa using congrArg Array.toList d1
 subst this
 exact r.inj r'
end
noncomputable abbrev Cx.qK(X:Cx)(E:Value→Shared→Prop):Cx:={X with xe:=E}
noncomputable abbrev Cx.C9(X:Cx):Cx:=X.qK fun _ _=>False
theorem Cx.Ok.qK{X:Cx}(ok:X.Ok)(E:Value→Shared→Prop):(X.qK E).Ok:=
 ⟨ok.mod,ok.kind,ok.glob,ok.blt,ok.above,ok.inj,ok.has,ok.cab,ok.hd,ok.frames,ok.stk,ok.exf,ok.bs,ok.bsz,ok.noex,ok.exfs,ok.oT,ok.frf⟩
theorem Cx.Ok.kD{X:Cx}{E:Value→Shared→Prop}(ok:(X.qK E).Ok):X.Ok:=
 ⟨ok.mod,ok.kind,ok.glob,ok.blt,ok.above,ok.inj,ok.has,ok.cab,ok.hd,ok.frames,ok.stk,ok.exf,ok.bs,ok.bsz,ok.noex,ok.exfs,ok.oT,ok.frf⟩
section
variable {X:Cx} {pins:List (Addr × Obj)} {σ:St} {H:Hp} {s:Shared} {E:Value→Shared→Prop}
theorem Inv.qK(I:Inv X pins σ H s)(E:Value→Shared→Prop):Inv (X.qK E) pins σ H s:=⟨I.ok.qK E,I.os,I.bare,I.base,I.loc,I.cell,I.free,I.freeC,I.pin,I.hok,I.len⟩
theorem Inv.kD(I:Inv (X.qK E) pins σ H s):Inv X pins σ H s:=⟨I.ok.kD,I.os,I.bare,I.base,I.loc,I.cell,I.free,I.freeC,I.pin,I.hok,I.len⟩
theorem SP.kD{D:Ends}{f:Flow}{s':Shared}(h:SP (X.qK E) pins D f s'):SP X pins D f s':=by
 cases f with
 | next=>obtain⟨σ',H',I,q⟩:=h;exact⟨σ',H',I.kD,q⟩
 | brk=>obtain⟨σ',H',I,q⟩:=h;exact⟨σ',H',I.kD,q⟩
 | cont=>obtain⟨σ',H',I,q⟩:=h;exact⟨σ',H',I.kD,q⟩
 | ret u=>obtain⟨v,σ',H',I,r,q⟩:=h;exact⟨v,σ',H',I.kD,r,q⟩
theorem sE.C9{st:List Stmt}{t:TS}(h:sE X.C9 st t):sE X st t:=fun pins s σ H D I hw=>
 wpAny_mono (h pins s σ H D (I.qK _) hw) (fun _ _ q=>q.kD) fun _ _ z=>False.elim z
end
section
variable {X:Cx} {st:Stmt} {rest:List Stmt} {t u:TS} {e:Expr} {te:TE} {pos:Pos}
noncomputable def HU:TS:=fun D σ H=>D.nx σ H
noncomputable def G2(t u:TS):TS:=fun D σ H=>t {D with nx:=u D} σ H
theorem xV:sE X [] HU:=fun _ _ σ H _ I h=>wpAny_execs_nil ⟨σ,H,I,h⟩
theorem va(h1:PS X st t)(h2:sE X rest u):sE X (st ::rest) (G2 t u):=by
 intro pins s σ H D I h
 refine wpAny_execs_cons (d5 (h1 pins s σ H {D with nx:=u D} I h) fun f s1 q=>?_)
 cases f with
 | next=>
   obtain⟨σ',H',I',q⟩:=q
   exact h2 pins s1 σ' H' D I' q
 | ret v=>exact q
 | brk=>exact q
 | cont=>exact q
theorem ya(h1:PS X st t):sE X [st] t:=by
 intro pins s σ H D I h
 refine wpAny_execs_cons (d5 (h1 pins s σ H D I h) fun f s1 q=>?_)
 cases f with
 | next=>exact wpAny_execs_nil q
 | ret v=>exact q
 | brk=>exact q
 | cont=>exact q
noncomputable def Jb:TS:=fun D σ H=>D.bk σ H
noncomputable def Kr:TS:=fun D σ H=>D.ct σ H
theorem Inv.quiet{pins:List (Addr × Obj)}{σ:St}{H:Hp}{s:Shared}(I:Inv X pins σ H s):interactive X.env=false:=by simp [interactive,I.ok.kind]
noncomputable def Hi(te:TE):TS:=fun D σ H=>te σ H fun _ H1=>D.nx σ H1
theorem xO(he:PE X e te)(hs:swapsWith e none pos.line X.env=pure false:=by rfl):PS X (.Expr e pos) (Hi te):=by
 intro pins s σ H D I h
 exact wpAny_Expr_any (d5 (he pins s σ H _ I h) fun v s1 ⟨x,H1,I1,r1,q1⟩=>⟨σ,H1,I1,q1⟩) I.quiet hs
noncomputable def II(te:TE):TS:=fun D σ H=>te σ H D.rt
theorem zR(he:PE X e te):PS X (.Return (some e) pos) (II te):=by
 intro pins s σ H D I h
 exact wpAny_Return_some (d5 (he pins s σ H _ I h) fun v s1 ⟨x,H1,I1,r1,q1⟩=>⟨x,σ,H1,I1,r1,q1⟩)
noncomputable def Kj:TS:=fun D _ H=>D.rt .dk H
noncomputable def Jz(c:TT)(t u:TS):TS:=fun D σ H=>c σ H fun b H1=>if b=true then t D σ H1 else u D σ H1
theorem Ed{c:Expr}{a b:List Stmt}{tc:TT}(hc:PT X c tc)(ha:sE X a t)(hb:sE X b u):PS X (.If c a b pos) (Jz tc t u):=by
 intro pins s σ H D I h
 refine wpAny_If (d5 (hc pins s σ H _ I h) fun d s1 ⟨H1,I1,q1⟩=>?_)
 cases d with
 | true=>exact ha pins s1 σ H1 D I1 q1
 | false=>exact hb pins s1 σ H1 D I1 q1
noncomputable def IS:TS:=fun _ _ _=>False
end
noncomputable abbrev TG:=V→St→Hp→(St→Hp→Prop)→Prop
noncomputable abbrev BH:=List V→St→Hp→(St→Hp→Prop)→Prop
noncomputable def PG(X:Cx)(target:Expr)(t:TG):Prop:=
 ∀(pins:List (Addr × Obj)) (s:Shared) (σ:St) (H:Hp) (v:V) (u:Value) (Q:St→Hp→Prop),Inv X pins σ H s→RelV v u→t v σ H Q→
  wpAny (model X.prog X.w) X.A (assign target X.env u) (fun _ s'=>∃σ' H',Inv X pins σ' H' s'∧Q σ' H') X.xe s
noncomputable def CM(X:Cx)(ts:List Expr)(t:BH):Prop:=
 ∀(pins:List (Addr × Obj)) (s:Shared) (σ:St) (H:Hp) (vs:List V) (us:List Value) (Q:St→Hp→Prop),Inv X pins σ H s→Vals vs us→t vs σ H Q→
  wpAny (model X.prog X.w) X.A (assignInOrder ((assignEach ts X.env).map (·.2)) us) (fun _ s'=>∃σ' H',Inv X pins σ' H' s'∧Q σ' H') X.xe s
noncomputable abbrev B_:=V→V→V→Hp→(Hp→Prop)→Prop
noncomputable def HL(X:Cx)(t:B_):Prop:=
 ∀(pins:List (Addr × Obj)) (s:Shared) (σ:St) (H:Hp) (o i v:V) (ov iv u:Value) (Q:Hp→Prop),Inv X pins σ H s→RelV o ov→RelV i iv→RelV v u→t o i v H Q→
  wpAny (model X.prog X.w) X.A (setItem ov iv u) (fun _ s'=>∃H',Inv X pins σ H' s'∧Q H') X.xe s
noncomputable abbrev Ir:=V→V→Hp→VK→Prop
noncomputable def LX(X:Cx)(op:Operator)(t:Ir):Prop:=
 ∀(pins:List (Addr × Obj)) (s:Shared) (σ:St) (H:Hp) (x y:V) (v u:Value) (Q:VK),Inv X pins σ H s→RelV x v→RelV y u→t x y H Q→
  wpAny (model X.prog X.w) X.A (inplaceOp op v u) (EP X pins σ Q) X.xe s
section
variable {X:Cx} {pos:Pos}
noncomputable def p7(i:Nat):TG:=fun v σ H Q=>Q (σ.set i (some v)) H
theorem yg{i:Nat}{x:Str}(hN:X.N.Nodup)(hi:X.N[i]? =some x)(hx:Loc X.env.scope x)(hf:X.fn x=true∨X.env.scope.names.lookup x=some .local:=by first | exact .inl rfl | exact .inr rfl | assumption):PG X (.Name x pos) (p7 i):=by
 intro pins s σ H v u Q I r h
 exact wpAny_assign_Name (tL I hN hi hx r (fun s' I'=>⟨_,H,I',h⟩) hf)
noncomputable def Jo:BH:=fun vs σ H Q=>vs=[]∧Q σ H
noncomputable def Hw(t:TG)(u:BH):BH:=fun vs σ H Q=>∃v r,vs=v ::r∧t v σ H fun σ' H'=>u r σ' H' Q
theorem xB:CM X [] Jo:=by
 intro pins s σ H vs us Q I r h
 obtain⟨e,h⟩:=h
 subst e
 cases r
 exact assignInOrder_nil ⟨σ,H,I,h⟩
theorem uz{e:Expr}{es:List Expr}{t:TG}{u:BH}(h1:PG X e t)(h2:CM X es u)
 (hs:(assignEach (e ::es) X.env).map (·.2)=assign e X.env ::(assignEach es X.env).map (·.2):=by rfl):CM X (e ::es) (Hw t u):=by
 intro pins s σ H vs us Q I r h
 obtain⟨v,vr,e1,h⟩:=h
 subst e1
 cases r with
 | cons r rr=>
   rw[hs]
   refine assignInOrder_cons (d5 (h1 pins s σ H _ _ _ I r h) fun _ s1 ⟨σ1,H1,I1,q1⟩=>?_)
   exact h2 pins s1 σ1 H1 _ _ Q I1 rr q1
noncomputable def I_(K:PySem.W.Frag)(n:Nat)(t:BH):TG:=fun v σ H Q=>∃a xs,v= .ref a∧oO K H a xs∧xs.length=n∧t xs σ H Q
theorem A4{es:List Expr}{k:Nat}{t:BH}{n:Nat}(hc:X.calm=true)(h:CM X es t)
 (hn:(assignEach es X.env).length=n:=by rfl) (hst:(assignEach es X.env).findIdx? (·.1)=none:=by rfl):PG X (.Tuple es k pos) (I_ X.K n t):=by
 intro pins s σ H v u Q I r hw
 obtain⟨a,xs,e1,hq,hl,hw⟩:=hw
 subst e1
 cases r
 obtain⟨its,rv,ht,hz⟩:=I.tuple hq
 refine assign_Tuple_tuple (I.ok.hd hc) ht (by simp [hn,←hl,rv.length]) hst fun h' hx=>?_
 have I1:Inv X pins σ H {s with heap:=h'}:=I.kept (t':=s.toks) fun b o e=>hx b o (Nat.ne_of_lt (Heap.lt_size e)) e
 exact h pins _ σ H xs _ Q I1 (by simpa using rv) hw
noncomputable def GZ(to ti:TE)(t:B_):TG:=fun v σ H Q=>to σ H fun o H1=>ti σ H1 fun i H2=>t o i v H2 fun H3=>Q σ H3
theorem BO{o i:Expr}{to ti:TE}{t:B_}(ho:PE X o to)(hi:PE X i ti)(hs:HL X t)
 (ha:∀v,assign (.Subscript o i pos) X.env v=(do
   let ov ←holding [v] (eval o X.env)
   let iv ←holding [v,ov] (eval i X.env)
   standAt pos
   holding [v,ov,iv] (setItem ov iv v)
   release [v,ov,iv] []):=by intro _;rfl):PG X (.Subscript o i pos) (GZ to ti t):=by
 intro pins s σ H v u Q I r h
 rw[ha]
 refine wpAny_bind (wpAny_holding (d5 (ho pins s σ H _ I h) fun ov s1 ⟨x,H1,I1,r1,q1⟩=>?_))
 refine wpAny_bind (wpAny_holding (d5 (hi pins s1 σ H1 _ I1 q1) fun iv s2 ⟨y,H2,I2,r2,q2⟩=>?_))
 refine wpAny_bind (wpAny_standAt (wpAny_bind (wpAny_holding (d5 (hs pins s2 σ H2 x y v ov iv u _ I2 r1 r2 r q2) fun _ s3 ⟨H3,I3,q3⟩=>?_))))
 exact wpAny_release ⟨σ,H3,I3,q3⟩
noncomputable def yI(te:TE)(g:TG):TS:=fun D σ H=>te σ H fun x H1=>g x σ H1 D.nx
theorem BN{tg e:Expr}{te:TE}{g:TG}(he:PE X e te)(hg:PG X tg g)(hs:swapsWithSole [tg] e pos.line X.env=pure false:=by rfl)(hw:swappedStores [tg] e X.env=pure none:=by rfl)
 (h1:(assignEach [tg] X.env).map (·.2)=[assign tg X.env]:=by rfl):PS X (.Assign [tg] e pos) (yI te g):=by
 intro pins s σ H D I h
 refine wpAny_Assign_stores (d5 (he pins s σ H _ I h) fun v s1 ⟨x,H1,I1,r1,q1⟩=>?_) hs hw
 rw[h1]
 exact d5 (hg pins s1 σ H1 x v _ I1 r1 q1) fun _ s2 q=>q
theorem wo{i:Nat}{x:Str}{e:Expr}{te:TE}{pos':Pos}(hN:X.N.Nodup)(hi:X.N[i]? =some x)(hx:Loc X.env.scope x)(he:PE X e te)(hs:swapsWith e (some (.Name x pos')) pos.line X.env=pure false:=by rfl)(hf:X.fn x=true∨X.env.scope.names.lookup x=some .local:=by first | exact .inl rfl | exact .inr rfl | assumption) :
 PS X (.Assign [.Name x pos'] e pos) (yI te (p7 i)):=by
 intro pins s σ H D I h
 refine wpAny_Assign_Name (d5 (he pins s σ H _ I h) fun v s1 ⟨y,H1,I1,r1,q1⟩=>?_) hs
 exact tL I1 hN hi hx r1 (fun s2 I2=>⟨_,H1,I2,q1⟩) hf
noncomputable def KO(i j:Nat)(ta:TA):TS:=fun D σ H=>ta σ H fun vs H1=>∃v w,vs=[v,w]∧D.nx ((σ.set i (some v)).set j (some w)) H1
noncomputable def La(i:Nat)(te:TE)(ti:Ir):TS:=fun D σ H=>∃x,σ[i]? =some (some x)∧te σ H fun y H1=>ti x y H1 fun z H2=>D.nx (σ.set i (some z)) H2
noncomputable def Kh(to ti te:TE)(tget:V→V→Hp→VK→Prop)(tip:Ir)(tset:B_):TS:=fun D σ H=>to σ H fun o H1=>ti σ H1 fun i H2=>tget o i H2 fun x H3=>te σ H3 fun y H4=>tip x y H4 fun z H5=>tset o i z H5 fun H6=>D.nx σ H6
noncomputable def K7(X:Cx)(t:V→V→Hp→VK→Prop):Prop:=
 ∀(pins:List (Addr × Obj)) (s:Shared) (σ:St) (H:Hp) (o i:V) (ov iv:Value) (Q:VK),Inv X pins σ H s→RelV o ov→RelV i iv→t o i H Q→
  wpAny (model X.prog X.w) X.A (getItem ov iv) (EP X pins σ Q) X.xe s
noncomputable def Mb(f:Int→Int→Int):Ir:=fun x y H Q=>∃i j,x= .int i∧y= .int j∧Q (.int (f i j)) H
end
section
variable {X:Cx} {pos:Pos}
noncomputable def EL(c:TT)(tb:TS):TS:=fun D σ H=>∃W:Nat→St→Hp→Prop,(∃m,W m σ H)∧∀m σ H,W m σ H→
 c σ H fun b H1=>if b=true then ∃N:St→Hp→Prop,(∀σ' H',N σ' H'→∃m',m' < m∧W m' σ' H')∧tb {D with nx:=N,ct:=N,bk:=D.nx} σ H1 else D.nx σ H1
theorem AK{c:Expr}{body:List Stmt}{tc:TT}{tb:TS}(hp:PassesOwn (model X.prog X.w) X.A X.env X.xe)(hc:PT X c tc)(hb:sE X body tb):PS X (.While c body [] pos) (EL tc tb):=by
 intro pins s σ H D I h
 obtain⟨W,⟨m0,w0⟩,turn⟩:=h
 refine wpAny_While (codeAny_whileLoop (fun n s'=>∃σ' H',Inv X pins σ' H' s'∧W n σ' H') ?_ m0 ⟨σ,H,I,w0⟩)
 rintro n s1 ⟨σ1,H1,I1,w1⟩
 refine wpAny_passesOwn hp (d5 (hc pins s1 σ1 H1 _ I1 (turn n σ1 H1 w1)) fun b s2 ⟨H2,I2,q2⟩=>?_)
 cases b with
 | true=>
   obtain⟨N,hN,q2⟩:=q2
   rw[if_pos rfl]
   refine wpAny_passesOwn hp (d5 (hb pins s2 σ1 H2 _ I2 q2) fun f s3 q3=>?_)
   cases f with
   | next=>
     obtain⟨σ3,H3,I3,n3⟩:=q3
     obtain⟨m',hm,w3⟩:=hN σ3 H3 n3
     exact⟨m',hm,σ3,H3,I3,w3⟩
   | cont=>
     obtain⟨σ3,H3,I3,n3⟩:=q3
     obtain⟨m',hm,w3⟩:=hN σ3 H3 n3
     exact⟨m',hm,σ3,H3,I3,w3⟩
   | brk=>exact q3
   | ret v=>exact q3
 | false=>
   rw[if_neg Bool.false_ne_true]
   exact wpAny_execs_nil ⟨σ1,H2,I2,q2⟩
end
structure It where
 go:Nat→Hp→Prop
 yld:Nat→Hp→V→Hp→Prop
 stop:Nat→Hp→Prop
noncomputable def oP(X:Cx)(pins:List (Addr × Obj))(H:Hp)(b:Addr):Prop:=
 H b=none∧b≠X.env.locals∧b ∉ X.fs∧(b∈X.ex∨X.s₀.heap.objs.size≤b)∧(∀x c,X.env.cells.lookup x=some c→c≠b)∧∀p∈X.pn++pins,p.1≠b
theorem Inv.qF{X:Cx}{pins:List (Addr × Obj)}{σ:St}{H H':Hp}{s:Shared}{b:Addr}(I:Inv X pins σ H s)(hb:s.heap.objs.size≤b)(hn:H' b=none):oP X pins H' b:=by
 refine⟨hn,Nat.ne_of_gt (Nat.lt_of_lt_of_le I.lt hb),I.IE hb, .inr (Nat.le_trans I.sz hb),fun x c e z=>?_,fun p hp z=>?_⟩
 ·obtain⟨v,q⟩:=I.cell x c e
  exact absurd (Nat.lt_of_lt_of_le q.lt (by rw[z];exact hb)) (Nat.lt_irrefl _)
 ·exact absurd (Nat.lt_of_lt_of_le (Heap.lt_size (I.pin p hp).1) (by rw[z];exact hb)) (Nat.lt_irrefl _)
structure Turn (P:Program) (w:World) (K:PySem.W.Frag) (tg:Expr) (J:It) (fp:List Addr) (it:Addr) (tn:Nat→Heap→Prop):Prop where
 mem:it∈fp
 obj:∀i h,tn i h→∀b∈fp,∃o,h.get? b=some o∧∀v,o.data≠ .cell v
 keep:∀i h h',tn i h→(∀b∈fp,∀o,h.get? b=some o→h'.get? b=some o)→tn i h'
 item:∀(X:Cx),X.prog=P→X.w=w→X.K=K→X.calm=true→∀(i:Nat) (pins:List (Addr × Obj)) (s:Shared) (σ:St) (H:Hp) (E:Value→Shared→Prop),Inv X pins σ H s→(∀b∈fp,oP X pins H b)→tn i s.heap→J.go i H→
  wpAny (model P w) X.A (pyNext (.ref it)) (fun r s1=>∃u,r=some u∧
   wpAny (model P w) X.A (letOwnedTupleGo tg (.ref it) u) (fun _ s2=>∃x H',Inv X pins σ H' s2∧RelV x u∧J.yld i H x H'∧tn (i+1) s2.heap∧∀b∈fp,H' b=none) E s1) E s
 done:∀(X:Cx),X.prog=P→X.w=w→X.K=K→X.calm=true→∀(i:Nat) (pins:List (Addr × Obj)) (s:Shared) (σ:St) (H:Hp) (E:Value→Shared→Prop),Inv X pins σ H s→(∀b∈fp,oP X pins H b)→tn i s.heap→J.stop i H→
  wpAny (model P w) X.A (pyNext (.ref it)) (fun r s1=>r=none∧Inv X pins σ H s1) E s
 self:∀(A:Around) (i:Nat) (s:Shared) (Q:Value→Shared→Prop) (E:Value→Shared→Prop),tn i s.heap→Q (.ref it) s→wpAny (model P w) A (pyIter (.ref it)) Q E s
noncomputable abbrev TI:=St→Hp→(It→Hp→Prop)→Prop
noncomputable def JZ(X:Cx)(pins:List (Addr × Obj))(σ:St)(tg:Expr)(R:It→Hp→Prop)(itv:Value)(s2:Shared):Prop:=
 ∃(it:Addr) (fp:List Addr) (tn:Nat→Heap→Prop) (J:It) (H':Hp),itv= .ref it∧Inv X pins σ H' s2∧Turn X.prog X.w X.K tg J fp it tn∧tn 0 s2.heap∧(∀b∈fp,oP X pins H' b)∧R J H'
noncomputable def PI(X:Cx)(tg iter:Expr)(wi:TI):Prop:=
 ∀(pins:List (Addr × Obj)) (s:Shared) (σ:St) (H:Hp) (R:It→Hp→Prop),Inv X pins σ H s→wi σ H R→
  wpAny (model X.prog X.w) X.A (eval iter X.env) (fun v s1=>wpAny (model X.prog X.w) X.A (pyIter v) (JZ X pins σ tg R) X.xe s1) X.xe s
theorem yf{M:Model}{A:Around}{E:Value→Shared→Prop}{s:Shared}{tg:Expr}{it:Addr}{u:Value}{o:Obj}{n:String}{vs:Array Value}{Q:Unit→Shared→Prop}(ho:s.heap.get? it=some o)(hc:o.cls= .type n)(hd:o.data= .fields vs)
 (hn:["enumerate","zip","dict_itemiterator","dict_reverseitemiterator","odict_iterator","itertools.zip_longest","itertools.pairwise"].contains n=false) (hQ:Q () s):wpAny M A (letOwnedTupleGo tg (.ref it) u) Q E s:=by
 unfold letOwnedTupleGo
 cases tg <;> first
  | exact wpAny_pure hQ
  | (cases u <;> first
      | exact wpAny_pure hQ
      | (refine wpAny_bind (wpAny_load ho ?_)
         rw[hc,hd]
         show wpAny M A (if(["enumerate","zip","dict_itemiterator","dict_reverseitemiterator","odict_iterator","itertools.zip_longest","itertools.pairwise"].contains n && vs[0]? ==some (rawInt _))=true then _ else _) Q E s
         rw[if_neg (by intro h;rw [hn,Bool.false_and] at h;cases h)]
         exact wpAny_pure hQ))
noncomputable def Kd(K:PySem.W.Frag)(a:Addr):It:=
 ⟨fun i H=>∃xs x,mD K H a xs∧xs[i]? =some x,fun i H x H'=>H'=H∧∀xs,mD K H a xs→xs[i]? =some x,fun i H=>∃xs,mD K H a xs∧xs.length≤i⟩
noncomputable def J5(K:PySem.W.Frag)(a:Addr):It:=
 ⟨fun i H=>∃xs x,oO K H a xs∧xs[i]? =some x,fun i H x H'=>H'=H∧∀xs,oO K H a xs→xs[i]? =some x,fun i H=>∃xs,oO K H a xs∧xs.length≤i⟩
noncomputable def GL(lo:Int)(n:Nat):It:=⟨fun i _=>i < n,fun i H x H'=>H'=H∧x= .int (lo+i),fun i _=>n≤i⟩
theorem qZ{P:Program}{w:World}{K:PySem.W.Frag}{tg:Expr}(a it:Addr):Turn P w K tg (Kd K a) [it] it (fun i h=>h.IsListIter it a i) where
 mem:=by simp
 obj:=fun i h st b hb=>by
  have e:b=it:=by simpa using hb
  subst e
  obtain⟨o,e,c,d⟩:=st
  exact⟨o,e,fun v z=>by rw[d] at z;cases z⟩
 keep:=fun i h h' st k=>st.at fun o e=>k it (by simp) o e
 item:=by
  intro X hP hw hK hc i pins s σ H E I hf st hg
  subst hP hw hK
  obtain⟨xs,x,hq,hx⟩:=hg
  obtain⟨its,rv,p,hz⟩:=I.list hq
  obtain⟨u,hu,ru⟩:=rv.get hx
  obtain⟨f0,f1,f2,f3,f4,f5⟩:=hf it (by simp)
  refine wpAny_pyNext_list_item st p.isList (x:=u) (by simpa using hu) fun h' st' sb=>?_
  have I1:Inv X pins σ H {s with heap:=h'}:=I.turned (t':=s.toks) (fun b o hb e=>(sb.2 b hb).trans e) f0 f1 f3 f4 f5
  obtain⟨o,e,c,d⟩:=id st'
  exact⟨u,rfl,yf (s:={s with heap:=h'}) e c d (by decide) ⟨x,H,I1,ru,⟨rfl,fun ys hy=>by rw[I.ng hy hq];exact hx⟩,st',fun b hb=>(hf b hb).1⟩⟩
 done:=by
  intro X hP hw hK hc i pins s σ H E I hf st hg
  subst hP hw hK
  obtain⟨xs,hq,hx⟩:=hg
  obtain⟨its,rv,p,hz⟩:=I.list hq
  obtain⟨f0,f1,f2,f3,f4,f5⟩:=hf it (by simp)
  have hl:=rv.length
  exact wpAny_pyNext_list_end (I.ok.hd hc) st p.isList (by simp;omega) fun h' eb=>⟨rfl,I.turned (t':=s.toks) (fun b o hb e=>eb b o hb e) f0 f1 f3 f4 f5⟩
 self:=fun _ _ _ _ _ st h=>wpAny_pyIter_listiter st h
theorem vI{P:Program}{w:World}{K:PySem.W.Frag}{tg:Expr}(a it:Addr):Turn P w K tg (J5 K a) [it] it (fun i h=>h.IsTupleIter it a i) where
 mem:=by simp
 obj:=fun i h st b hb=>by
  have e:b=it:=by simpa using hb
  subst e
  obtain⟨o,e,c,d⟩:=st
  exact⟨o,e,fun v z=>by rw[d] at z;cases z⟩
 keep:=fun i h h' st k=>st.at fun o e=>k it (by simp) o e
 item:=by
  intro X hP hw hK hc i pins s σ H E I hf st hg
  subst hP hw hK
  obtain⟨xs,x,hq,hx⟩:=hg
  obtain⟨its,rv,p,hz⟩:=I.tuple hq
  obtain⟨u,hu,ru⟩:=rv.get hx
  obtain⟨f0,f1,f2,f3,f4,f5⟩:=hf it (by simp)
  refine wpAny_pyNext_tuple_item st (show s.heap.IsTuple a its.toArray from p) (x:=u) (by simpa using hu) fun h' st' sb=>?_
  have I1:Inv X pins σ H {s with heap:=h'}:=I.turned (t':=s.toks) (fun b o hb e=>(sb.2 b hb).trans e) f0 f1 f3 f4 f5
  obtain⟨o,e,c,d⟩:=id st'
  exact⟨u,rfl,yf (s:={s with heap:=h'}) e c d (by decide) ⟨x,H,I1,ru,⟨rfl,fun ys hy=>by rw[I.nO hy hq];exact hx⟩,st',fun b hb=>(hf b hb).1⟩⟩
 done:=by
  intro X hP hw hK hc i pins s σ H E I hf st hg
  subst hP hw hK
  obtain⟨xs,hq,hx⟩:=hg
  obtain⟨its,rv,p,hz⟩:=I.tuple hq
  obtain⟨f0,f1,f2,f3,f4,f5⟩:=hf it (by simp)
  have hl:=rv.length
  exact wpAny_pyNext_tuple_end (I.ok.hd hc) st (show s.heap.IsTuple a its.toArray from p) (by simp;omega) fun h' eb=>⟨rfl,I.turned (t':=s.toks) (fun b o hb e=>eb b o hb e) f0 f1 f3 f4 f5⟩
 self:=fun _ _ _ _ _ st h=>wpAny_pyIter_tupleiter st h
theorem vS{P:Program}{w:World}{K:PySem.W.Frag}{tg:Expr}(it:Addr)(lo:Int)(n:Nat):Turn P w K tg (GL lo n) [it] it (fun i h=>IsRangeIter h it (lo+(i:Nat)*1) ((n:Int) - (i:Nat)) 1) where
 mem:=by simp
 obj:=fun i h st b hb=>by
  have e:b=it:=by simpa using hb
  subst e
  exact⟨_,st,fun v z=>by
   have z':Data.fields _=Data.cell v:=z
   cases z'⟩
 keep:=fun i h h' st k=>k it (by simp) _ st
 item:=by
  intro X hP hw hK hc i pins s σ H E I hf st hg
  subst hP hw hK
  obtain⟨f0,f1,f2,f3,f4,f5⟩:=hf it (by simp)
  have W:=Walks.range (prog:=X.prog) (w:=X.w) (I.ok.hd hc) it lo 1 n
  refine W.item i s _ _ hg st fun v h' tk hv st' kk=>?_
  obtain⟨t,rfl⟩:=hv
  have I1:Inv X pins σ H {s with heap:=h',toks:=tk}:=I.turned (fun b o hb e=>kk b o (by simpa using hb) e) f0 f1 f3 f4 f5
  refine⟨_,rfl,yf (s:={s with heap:=h',toks:=tk}) (n:="range_iterator") st' rfl rfl (by decide) ⟨.int (lo+i),H,I1,⟨t,?_⟩,⟨rfl,rfl⟩,st',fun b hb=>(hf b hb).1⟩⟩
  rw[Int.mul_one]
 done:=by
  intro X hP hw hK hc i pins s σ H E I hf st hg
  subst hP hw hK
  obtain⟨f0,f1,f2,f3,f4,f5⟩:=hf it (by simp)
  exact wpAny_pyNext_range_end (I.ok.hd hc) st (by have:n≤i:=hg;omega) fun h' eb=>⟨rfl,I.turned (t':=s.toks) (fun b o hb e=>eb b o hb e) f0 f1 f3 f4 f5⟩
 self:=fun _ _ _ _ _ st h=>wpAny_pyIter_rangeiter st h
end L2
namespace L2
open PySem PySem.Spec PyProof.Rows
section
variable {X:Cx} {tg:Expr}
noncomputable def Kb(K:PySem.W.Frag)(tl:TE):TI:=fun σ H R=>tl σ H fun x H1=>∃a,x= .ref a∧(∃xs,mD K H1 a xs)∧R (Kd K a) H1
noncomputable def Ja(K:PySem.W.Frag)(tl:TE):TI:=fun σ H R=>tl σ H fun x H1=>∃a,x= .ref a∧(∃xs,oO K H1 a xs)∧R (J5 K a) H1
theorem Ax{pins:List (Addr × Obj)}{σ:St}{H:Hp}{s:Shared}{R:It→Hp→Prop}{E:Value→Shared→Prop}{lo hi:Int}{t u v:Tok}{tk:Nat}(I:Inv X pins σ H s)(h1: -(2 ^ 62)≤lo)(h2:lo < 2 ^ 62)(h3: -(2 ^ 62)≤hi)(h4:hi < 2 ^ 62)
 (q:R (GL lo (hi - lo).toNat) H):wpAny (model X.prog X.w) X.A (pyIter (.ref s.heap.objs.size)) (JZ X pins σ tg R) E {s with heap:=s.heap.push {cls:= .type "range",data:= .fields #[.int lo t, .int hi u, .int 1 v]},toks:=tk}:=by
 refine wpAny_pyIter_range (IsRange.new ..) (small_one h1 h2 h3 h4) ?_
 have I1:Inv X pins σ H {s with heap:=s.heap.push {cls:= .type "range",data:= .fields #[.int lo t, .int hi u, .int 1 v]},toks:=tk}:=I.kept fun b o e=>Heap.get?_push_of_some _ e
 refine⟨(s.heap.push {cls:= .type "range",data:= .fields #[.int lo t, .int hi u, .int 1 v]}).objs.size,[(s.heap.push {cls:= .type "range",data:= .fields #[.int lo t, .int hi u, .int 1 v]}).objs.size],_,_,H,rfl,
  I1.kept (t':=tk) fun b o e=>Heap.get?_push_of_some _ e,vS _ lo (hi - lo).toNat,?_,fun b hb=>?_,q⟩
 ·have e1:lo+((0:Nat):Int)*1=lo:=by simp
  have e2:(((hi - lo).toNat:Nat):Int) - ((0:Nat):Int)=Builtin.Range.rangeSize lo hi 1:=by rw[rangeSize_one];split <;> omega
  show IsRangeIter _ _ (lo+((0:Nat):Int)*1) ((((hi - lo).toNat:Nat):Int) - ((0:Nat):Int)) 1
  rw[e1,e2]
  exact Heap.get?_push_size _ rfl
 ·have e:b=(s.heap.push {cls:= .type "range",data:= .fields #[.int lo t, .int hi u, .int 1 v]}).objs.size:=by simpa using hb
  subst e
  exact I1.qF (Nat.le_refl _) (I1.hok.fresh (Nat.le_refl _))
noncomputable def oy(ta:TA):TI:=fun σ H R=>ta σ H fun vs H1=>∃j:Int,vs=[.int j]∧ -(2 ^ 62)≤j∧j < 2 ^ 62∧R (GL 0 j.toNat) H1
noncomputable def J9(ta:TA):TI:=fun σ H R=>ta σ H fun vs H1=>∃i j:Int,vs=[.int i, .int j]∧(-(2 ^ 62)≤i∧i < 2 ^ 62∧ -(2 ^ 62)≤j∧j < 2 ^ 62)∧R (GL i (j - i).toNat) H1
theorem rB{a:Expr}{ta:TA}{p pos:Pos}(hg:Gl X "range")(hm:X.mg "range"=none)(ha:PA X [a] ta)(hs:starEach [a] X.env=[(false,eval a X.env)]:=by rfl):PI X tg (.Call (.Name "range" p) [a] [] pos) (oy ta):=by
 intro pins s σ H R I h
 refine Call_ (j0 I hg hm boot_range (PyProof.Rows.callWith_type1 (d5 (ha pos pins s σ H _ I h) fun us s1 ⟨vs,H1,I1,r1,q1⟩=>?_) hs rfl))
 obtain⟨j,e,q1,q2,q⟩:=q1
 subst e
 cases r1 with
 | cons r rr=>
   cases rr
   obtain⟨t,rfl⟩:=r
   exact call_range_1 (Ax I1 (by omega) (by omega) q1 q2 (by simpa using q))
noncomputable def JF(wi:TI)(g:TG)(tb:TS):TS:=fun D σ H=>wi σ H fun J H1=>∃W:Nat→Nat→St→Hp→Prop,(∃m,W 0 m σ H1)∧∀i m σ H,W i m σ H→
 (J.stop i H∧D.nx σ H)∨(J.go i H∧∃N:St→Hp→Prop,(∀σ' H',N σ' H'→∃m',m' < m∧W (i+1) m' σ' H')∧∀x H',J.yld i H x H'→g x σ H' fun σ2 H2=>tb {D with nx:=N,ct:=N,bk:=D.nx} σ2 H2)
noncomputable def lY(fp:List Addr)(h:Heap):List (Addr × Obj):=fp.filterMap fun b=>(h.get? b).map fun o=>(b,o)
theorem jR{fp:List Addr}{h:Heap}{b:Addr}{o:Obj}(hb:b∈fp)(e:h.get? b=some o):(b,o)∈lY fp h:=List.mem_filterMap.mpr ⟨b,hb,by rw[e];rfl⟩
theorem y0{fp:List Addr}{h:Heap}{p:Addr × Obj}(hp:p∈lY fp h):p.1∈fp∧h.get? p.1=some p.2:=by
 obtain⟨b,hb,e⟩:=List.mem_filterMap.mp hp
 cases q:h.get? b with
 | none=>rw [q] at e;cases e
 | some o=>
   rw[q] at e
   have e':(b,o)=p:=Option.some.inj e
   subst e'
   exact⟨hb,q⟩
theorem Inv.pinned{pins:List (Addr × Obj)}{σ:St}{H:Hp}{s:Shared}{fp:List Addr}(I:Inv X pins σ H s)(hf:∀b∈fp,oP X pins H b)(ho:∀b∈fp,∃o,s.heap.get? b=some o∧∀v,o.data≠ .cell v):Inv X (pins++lY fp s.heap) σ H s:=
 I.xW fun p hp=>(List.mem_append.mp hp).elim (fun z=>I.pin p (List.mem_append_right _ z)) fun z=>by
  obtain⟨hb,e⟩:=y0 z
  obtain⟨f0,f1,f2,_⟩:=hf p.1 hb
  obtain⟨o,e',d⟩:=ho p.1 hb
  rw[e] at e';cases e'
  exact⟨e,f0,f1,f2,d⟩
theorem Inv.mP{pins pl:List (Addr × Obj)}{σ:St}{H:Hp}{s:Shared}(I:Inv X (pins++pl) σ H s):Inv X pins σ H s:=I.xW fun p hp=>I.pin p (List.mem_append_right _ (List.mem_append_left _ hp))
theorem Bd{iter:Expr}{body:List Stmt}{wi:TI}{g:TG}{tb:TS}{pos:Pos}(hp:PassesOwn (model X.prog X.w) X.A X.env X.xe)(hc:X.calm=true)(hi:PI X tg iter wi)(hg:PG X tg g)(hb:sE X body tb)
 (hs:∀x,foldedSetIterable iter X.env x=pure x:=by intro _;rfl):PS X (.For tg iter body [] pos) (JF wi g tb):=by
 intro pins s σ H D I h
 refine wpAny_For (d5 (hi pins s σ H _ I h) fun v s1 h1=>d5 h1 fun itv s2 h2=>?_) hs
 obtain⟨it,fp,tn,J,H2,e,I2,T,st2,f2,W,⟨m0,w0⟩,turn⟩:=h2
 subst e
 have stat:∀{H':Hp},(∀b∈fp,H' b=none)→∀b∈fp,oP X pins H' b:=fun hn b hb=>⟨hn b hb,(f2 b hb).2⟩
 refine codeAny_forLoop_any (fun n s'=>∃i σ' H',Inv X pins σ' H' s'∧tn i s'.heap∧(∀b∈fp,H' b=none)∧W i n σ' H') ?_ m0 ⟨0,σ,H2,I2,st2,fun b hb=>(f2 b hb).1,w0⟩
 rintro n s3 ⟨i,σ3,H3,I3,st3,fr3,w3⟩
 rcases turn i n σ3 H3 w3 with⟨stop,qn⟩ | ⟨go,N,hN,step⟩
 ·refine wpAny_passesOwn hp (d5 (T.done X rfl rfl rfl hc i pins s3 σ3 H3 X.xe I3 (stat fr3) st3 stop) fun r s4 ⟨hr,I4⟩=>?_)
  subst hr
  exact wpAny_execs_nil ⟨σ3,H3,I4,qn⟩
 ·refine wpAny_passesOwn hp (d5 (T.item X rfl rfl rfl hc i pins s3 σ3 H3 X.xe I3 (stat fr3) st3 go) fun r s4 ⟨u,hr,h4⟩=>?_)
  subst hr
  refine wpAny_passesOwn hp (d5 h4 fun _ s5 ⟨x,H5,I5,r5,y5,st5,fr5⟩=>?_)
  have I5':=I5.pinned (stat fr5) (T.obj _ _ st5)
  refine wpAny_passesOwn hp (d5 (hg _ s5 σ3 H5 x u _ I5' r5 (step x H5 y5)) fun _ s6 ⟨σ6,H6,I6,q6⟩=>?_)
  refine wpAny_passesOwn hp (d5 (hb _ s6 σ6 H6 _ I6 q6) fun f s7 q7=>?_)
  have again:∀{σ7:St} {H7:Hp},Inv X (pins++lY fp s5.heap) σ7 H7 s7→N σ7 H7→∃m,m < n∧∃i σ' H',Inv X pins σ' H' s7∧tn i s7.heap∧(∀b∈fp,H' b=none)∧W i m σ' H':=fun {σ7 H7} I7 n7=>by
   obtain⟨m',hm,w7⟩:=hN σ7 H7 n7
   refine⟨m',hm,i+1,σ7,H7,I7.mP,T.keep _ _ _ st5 fun b hb o e=>(I7.pin (b,o) (List.mem_append_right _ (List.mem_append_right _ (jR hb e)))).1,fun b hb=>?_,w7⟩
   obtain⟨o,e,d⟩:=T.obj _ _ st5 b hb
   exact(I7.pin (b,o) (List.mem_append_right _ (List.mem_append_right _ (jR hb e)))).2.1
  cases f with
  | next=>obtain⟨σ7,H7,I7,n7⟩:=q7;exact again I7 n7
  | cont=>obtain⟨σ7,H7,I7,n7⟩:=q7;exact again I7 n7
  | brk=>obtain⟨σ7,H7,I7,q7⟩:=q7;exact⟨σ7,H7,I7.mP,q7⟩
  | ret v=>obtain⟨x7,σ7,H7,I7,r7,q7⟩:=q7;exact⟨x7,σ7,H7,I7.mP,r7,q7⟩
end
end L2
namespace L2
open PySem PySem.Spec PyProof.Rows
noncomputable abbrev R2:=V→V→Hp→VK→Prop
noncomputable def k6(X:Cx)(f:Value→Value→Sem Value)(r:R2):Prop:=
 ∀(pins:List (Addr × Obj)) (s:Shared) (σ:St) (H:Hp) (x y:V) (v u:Value) (Q:VK),Inv X pins σ H s→RelV x v→RelV y u→r x y H Q→
  wpAny (model X.prog X.w) X.A (f v u) (EP X pins σ Q) X.xe s
noncomputable def Js(X:Cx)(f:Value→Sem Value)(r:V→Hp→VK→Prop):Prop:=
 ∀(pins:List (Addr × Obj)) (s:Shared) (σ:St) (H:Hp) (x:V) (v:Value) (Q:VK),Inv X pins σ H s→RelV x v→r x H Q→
  wpAny (model X.prog X.w) X.A (f v) (EP X pins σ Q) X.xe s
noncomputable def kq(X:Cx)(f:Value)(r:List V→Hp→VK→Prop):Prop:=
 ∀(pins:List (Addr × Obj)) (s:Shared) (σ:St) (H:Hp) (xs:List V) (us:List Value) (Q:VK),Inv X pins σ H s→Vals xs us→r xs H Q→
  wpAny (model X.prog X.w) X.A (call f us) (EP X pins σ Q) X.xe s
noncomputable def JB(X:Cx)(r:V→Hp→(Bool→Hp→Prop)→Prop):Prop:=
 ∀(pins:List (Addr × Obj)) (s:Shared) (σ:St) (H:Hp) (x:V) (v:Value) (Q:Bool→Hp→Prop),Inv X pins σ H s→RelV x v→r x H Q→
  wpAny (model X.prog X.w) X.A (truthy v) (TP X pins σ Q) X.xe s
noncomputable def GC(r:R2)(ta tb:TE):TE:=fun σ H Q=>ta σ H fun x H1=>tb σ H1 fun y H2=>r x y H2 Q
noncomputable def K0(r:V→Hp→VK→Prop)(ta:TE):TE:=fun σ H Q=>ta σ H fun x H1=>r x H1 Q
noncomputable def rI(C:Int→Int→Prop)(g:Int→Int→V):R2:=fun x y H Q=>∃i j,x= .int i∧y= .int j∧C i j∧Q (g i j) H
noncomputable def zl(g:Int→Int→V):R2:=fun x y H Q=>∃i j,x= .int i∧y= .int j∧Q (g i j) H
noncomputable def rU(g:Int→V):V→Hp→VK→Prop:=fun x H Q=>∃i,x= .int i∧Q (g i) H
section
variable {X:Cx} {a b c:Expr} {ta tb tc:TE} {pos:Pos}
theorem FR(ha:PE X a ta)(hb:PE X b tb){pins:List (Addr × Obj)}{s:Shared}{σ:St}{H:Hp}{R:V→V→Hp→Prop}(I:Inv X pins σ H s)
 (h:ta σ H fun x H1=>tb σ H1 fun y H2=>R x y H2) {Q:Value→Shared→Prop} {f:Value→Value→Sem Value}
 (hf:∀v u s2 x y H2,Inv X pins σ H2 s2→RelV x v→RelV y u→R x y H2→wpAny (model X.prog X.w) X.A (f v u) Q X.xe s2) :
 wpAny (model X.prog X.w) X.A (eval a X.env) (fun v s₁=>wpAny (model X.prog X.w) X.A (eval b X.env) (fun u s₂=>wpAny (model X.prog X.w) X.A (f v u) Q X.xe s₂) X.xe s₁) X.xe s:=by
 refine d5 (ha pins s σ H _ I h) fun v s1 ⟨x,H1,I1,r1,q1⟩=>?_
 refine d5 (hb pins s1 σ H1 _ I1 q1) fun u s2 ⟨y,H2,I2,r2,q2⟩=>?_
 exact hf v u s2 x y H2 I2 r1 r2 q2
theorem D_{op:Operator}{r:R2}(ho:k6 X (binaryOp op) r)(ha:PE X a ta)(hb:PE X b tb):PE X (.BinOp a op b pos) (GC r ta tb):=by
 intro pins s σ H Q I h
 exact wpAny_BinOp (FR ha hb I h fun v u s2 x y H2 I2 rx ry q=>ho pins s2 σ H2 x y v u Q I2 rx ry q)
theorem G5{op:UnaryOp}{r:V→Hp→VK→Prop}(ho:Js X (unaryOp op) r)(ha:PE X a ta):PE X (.UnaryOp op a pos) (K0 r ta):=by
 intro pins s σ H Q I h
 exact UnaryOp_ (d5 (ha pins s σ H _ I h) fun v s1 ⟨x,H1,I1,r1,q1⟩=>ho pins s1 σ H1 x v Q I1 r1 q1)
theorem Ho{f:Value→Value→Sem Value}{C:Int→Int→Prop}{g:Int→Int→Int}
 (rule:∀(i j:Int) (t u:Tok) (s:Shared) (Q:Value→Shared→Prop) (E:Value→Shared→Prop),C i j→Q (.int (g i j) s.toks) {s with toks:=s.toks+1}→wpAny (model X.prog X.w) X.A (f (.int i t) (.int j u)) Q E s) :
 k6 X f (rI C fun i j=> .int (g i j)):=by
 intro pins s σ H x y v u Q I rx ry h
 obtain⟨i,j,rfl,rfl,hc,q⟩:=h
 obtain⟨t,rfl⟩:=rx
 obtain⟨t',rfl⟩:=ry
 exact rule i j t t' s _ _ hc ⟨.int (g i j),H,I.tok _,⟨_,rfl⟩,q⟩
theorem zH{f:Value→Value→Sem Value}{g:Int→Int→Int}
 (rule:∀(i j:Int) (t u:Tok) (s:Shared) (Q:Value→Shared→Prop) (E:Value→Shared→Prop),Q (.int (g i j) s.toks) {s with toks:=s.toks+1}→wpAny (model X.prog X.w) X.A (f (.int i t) (.int j u)) Q E s) :
 k6 X f (zl fun i j=> .int (g i j)):=by
 intro pins s σ H x y v u Q I rx ry h
 obtain⟨i,j,rfl,rfl,q⟩:=h
 obtain⟨t,rfl⟩:=rx
 obtain⟨t',rfl⟩:=ry
 exact rule i j t t' s _ _ ⟨.int (g i j),H,I.tok _,⟨_,rfl⟩,q⟩
theorem F3{f:Value→Value→Sem Value}{g:Int→Int→Bool}
 (rule:∀(i j:Int) (t u:Tok) (s:Shared) (Q:Value→Shared→Prop) (E:Value→Shared→Prop),Q (.bool (g i j)) s→wpAny (model X.prog X.w) X.A (f (.int i t) (.int j u)) Q E s) :
 k6 X f (zl fun i j=> .bl (g i j)):=by
 intro pins s σ H x y v u Q I rx ry h
 obtain⟨i,j,rfl,rfl,q⟩:=h
 obtain⟨t,rfl⟩:=rx
 obtain⟨t',rfl⟩:=ry
 exact rule i j t t' s _ _ ⟨.bl (g i j),H,I,rfl,q⟩
noncomputable def LO(i j:Int):Prop:=0 < j∧j < 1073741824
noncomputable def JW(i j:Int):Prop:=j≠0∧j.natAbs < 1073741824
noncomputable def Jn(i j:Int):Prop:=0≤j∧j≤1000000∧i.natAbs < 2 ^ 64
noncomputable def Ey(i j:Int):Prop:=(-(2 ^ 64) < i∧i < 2 ^ 64)∨(-(2 ^ 64) < j∧j < 2 ^ 64)
theorem Ey.ok{i j:Int}(h:Ey i j):IntMulOk i j:=by
 rcases h with⟨h1,h2⟩ | ⟨h1,h2⟩
 ·exact .of_left (intBits_le_64 h1 h2)
 ·exact .of_right (intBits_le_64 h1 h2)
theorem wd(k:Nat):(0:Int)≤2 ^ k:=by
 rw[two_pow_cast]
 exact Int.natCast_nonneg _
theorem FV:k6 X (binaryOp .Add) (zl fun i j=> .int (i+j)):=zH fun _ _ _ _ _ _ _ q=>add_int q
theorem Gg:k6 X (binaryOp .Sub) (zl fun i j=> .int (i - j)):=zH fun _ _ _ _ _ _ _ q=>sub_int q
theorem Gs:k6 X (binaryOp .Mult) (rI Ey fun i j=> .int (i*j)):=Ho fun _ _ _ _ _ _ _ hc q=>mul_int q hc.ok
theorem EK:k6 X (binaryOp .Mod) (rI (fun _ j=>0 < j) fun i j=> .int (i % j)):=Ho fun i j _ _ _ _ _ hc q=>by
 have h1:(0:Int) < j:=hc
 exact mod_int' (by omega) (by rw[Int.fmod_eq_emod_of_nonneg i (by omega)];exact q)
theorem EX:k6 X (binaryOp .Pow) (rI Jn fun i j=> .int (i ^ j.toNat)):=Ho fun _ _ _ _ _ _ _ hc q=>pow_int_small hc.1 hc.2.1 hc.2.2 q
theorem Fc:k6 X (binaryOp .RShift) (rI (fun _ j=>0≤j) fun i j=> .int (i / 2 ^ j.toNat)):=Ho fun i j _ _ _ _ _ hc q=>
 rshift_int hc (by rw[Int.fdiv_eq_ediv_of_nonneg i (wd _)];exact q)
theorem FI:k6 X (binaryOp .BitAnd) (zl fun i j=> .int (Builtin.bitAnd i j)):=zH fun _ _ _ _ _ _ _ q=>and_int q
theorem GS:k6 X (binaryOp .BitOr) (zl fun i j=> .int (Builtin.bitOr i j)):=zH fun _ _ _ _ _ _ _ q=>or_int q
theorem Gx:k6 X (binaryOp .BitXor) (zl fun i j=> .int (Builtin.bitXor i j)):=zH fun _ _ _ _ _ _ _ q=>xor_int q
theorem Lv{f:Value→Sem Value}{g:Int→Int}
 (rule:∀(i:Int) (t:Tok) (s:Shared) (Q:Value→Shared→Prop) (E:Value→Shared→Prop),Q (.int (g i) s.toks) {s with toks:=s.toks+1}→wpAny (model X.prog X.w) X.A (f (.int i t)) Q E s) :
 Js X f (rU fun i=> .int (g i)):=by
 intro pins s σ H x v Q I rx h
 obtain⟨i,rfl,q⟩:=h
 obtain⟨t,rfl⟩:=rx
 exact rule i t s _ _ ⟨.int (g i),H,I.tok _,⟨_,rfl⟩,q⟩
theorem FE:Js X (unaryOp .USub) (rU fun i=> .int (-i)):=Lv fun _ _ _ _ _ q=>neg_int q
end
noncomputable def G3:V→V→Bool
 | .dk, .dk=>true | .dk, .int _=>true | .int _, .dk=>true | .dk, .bl _=>true | .bl _, .dk=>true | .dk, .str _=>true | .str _, .dk=>true
 | .int _, .int _=>true | .bl _, .bl _=>true | .str _, .str _=>true | .byt _, .byt _=>true
 | .int _, .str _=>true | .str _, .int _=>true | .bl _, .str _=>true | .str _, .bl _=>true
 | _,_=>false
noncomputable def KW:R2:=fun x y H Q=>G3 x y=true∧Q (.bl (decide (x=y))) H
noncomputable def Ld:R2:=fun x y H Q=>G3 x y=true∧Q (.bl (!decide (x=y))) H
theorem xq{i j:Int}:decide (V.int i=V.int j)=(i==j):=by
 rw[Bool.eq_iff_iff]
 simp
theorem AQ{i j:Bool}:decide (V.bl i=V.bl j)=(i==j):=by
 rw[Bool.eq_iff_iff]
 simp
theorem xw{i j:Str}:decide (V.str i=V.str j)=(i==j):=by
 rw[Bool.eq_iff_iff]
 simp
theorem xK{i j:Array UInt8}:decide (V.byt i=V.byt j)=(i.toList==j.toList):=by
 rw[Bool.eq_iff_iff]
 cases i
 cases j
 simp
section
variable {X:Cx} {a b c:Expr} {ta tb tc:TE} {pos:Pos}
theorem bZ{pins:List (Addr × Obj)}{σ:St}{H:Hp}{s:Shared}{Q:VK}{k k':Bool}(I:Inv X pins σ H s)(q:Q (.bl k) H)(e:k=k'):EP X pins σ Q (.bool k') s:=by
 subst e
 exact⟨.bl k,H,I,rfl,q⟩
theorem BK:k6 X (compareOp .Eq) KW:=by
 intro pins s σ H x y v u Q I rx ry h
 obtain⟨hs,q⟩:=h
 cases x with
 | dk=>
   cases rx
   cases y with
   | dk=>cases ry;exact PySem.EqNone.eq_none_none (bZ I q (by simp))
   | bl j=>cases ry;exact PySem.EqNone.eq_none_bool (bZ I q (by simp))
   | int j=>obtain⟨t',rfl⟩:=ry;exact PySem.EqNone.eq_none_int (bZ I q (by simp))
   | str j=>obtain⟨t',rfl⟩:=ry;exact PySem.EqNone.eq_none_str (bZ I q (by simp))
   | _=>exact absurd (show false=true from hs) Bool.false_ne_true
 | bl i=>
   cases rx
   cases y with
   | dk=>cases ry;exact PySem.EqNone.eq_bool_none (bZ I q (by simp))
   | bl j=>cases ry;exact eq_bool (bZ I q AQ)
   | str j=>obtain⟨t',rfl⟩:=ry;exact PySem.EqMixed.eq_bool_str (bZ I q (by simp))
   | _=>exact absurd (show false=true from hs) Bool.false_ne_true
 | int i=>
   obtain⟨t,rfl⟩:=rx
   cases y with
   | dk=>cases ry;exact PySem.EqNone.eq_int_none (bZ I q (by simp))
   | int j=>obtain⟨t',rfl⟩:=ry;exact eq_int (bZ I q xq)
   | str j=>obtain⟨t',rfl⟩:=ry;exact PySem.EqMixed.eq_int_str (bZ I q (by simp))
   | _=>exact absurd (show false=true from hs) Bool.false_ne_true
 | str i=>
   obtain⟨t,rfl⟩:=rx
   cases y with
   | dk=>cases ry;exact PySem.EqNone.eq_str_none (bZ I q (by simp))
   | bl j=>cases ry;exact PySem.EqMixed.eq_str_bool (bZ I q (by simp))
   | int j=>obtain⟨t',rfl⟩:=ry;exact PySem.EqMixed.eq_str_int (bZ I q (by simp))
   | str j=>obtain⟨t',rfl⟩:=ry;exact eq_str (bZ I q xw)
   | _=>exact absurd (show false=true from hs) Bool.false_ne_true
 | byt i=>
   obtain⟨t,rfl⟩:=rx
   cases y with
   | byt j=>obtain⟨t',rfl⟩:=ry;exact PySem.W.eq_bytes (bZ I q xK)
   | _=>exact absurd (show false=true from hs) Bool.false_ne_true
 | _=>cases y <;> exact absurd (show false=true from hs) Bool.false_ne_true
theorem BC:k6 X (compareOp .NotEq) Ld:=by
 intro pins s σ H x y v u Q I rx ry h
 obtain⟨hs,q⟩:=h
 cases x with
 | dk=>
   cases rx
   cases y with
   | dk=>cases ry;exact PySem.EqNone.ne_none_none (bZ I q (by simp))
   | bl j=>cases ry;exact PySem.EqNone.ne_none_bool (bZ I q (by simp))
   | int j=>obtain⟨t',rfl⟩:=ry;exact PySem.EqNone.ne_none_int (bZ I q (by simp))
   | str j=>obtain⟨t',rfl⟩:=ry;exact PySem.EqNone.ne_none_str (bZ I q (by simp))
   | _=>exact absurd (show false=true from hs) Bool.false_ne_true
 | bl i=>
   cases rx
   cases y with
   | dk=>cases ry;exact PySem.EqNone.ne_bool_none (bZ I q (by simp))
   | bl j=>cases ry;exact ne_bool (bZ I q (congrArg not AQ))
   | str j=>obtain⟨t',rfl⟩:=ry;exact PySem.EqMixed.ne_bool_str (bZ I q (by simp))
   | _=>exact absurd (show false=true from hs) Bool.false_ne_true
 | int i=>
   obtain⟨t,rfl⟩:=rx
   cases y with
   | dk=>cases ry;exact PySem.EqNone.ne_int_none (bZ I q (by simp))
   | int j=>obtain⟨t',rfl⟩:=ry;exact ne_int (bZ I q (congrArg not xq))
   | str j=>obtain⟨t',rfl⟩:=ry;exact PySem.EqMixed.ne_int_str (bZ I q (by simp))
   | _=>exact absurd (show false=true from hs) Bool.false_ne_true
 | str i=>
   obtain⟨t,rfl⟩:=rx
   cases y with
   | dk=>cases ry;exact PySem.EqNone.ne_str_none (bZ I q (by simp))
   | bl j=>cases ry;exact PySem.EqMixed.ne_str_bool (bZ I q (by simp))
   | int j=>obtain⟨t',rfl⟩:=ry;exact PySem.EqMixed.ne_str_int (bZ I q (by simp))
   | str j=>obtain⟨t',rfl⟩:=ry;exact ne_str (bZ I q (congrArg not xw))
   | _=>exact absurd (show false=true from hs) Bool.false_ne_true
 | byt i=>
   obtain⟨t,rfl⟩:=rx
   cases y with
   | byt j=>obtain⟨t',rfl⟩:=ry;exact PySem.W.ne_bytes (bZ I q (congrArg not xK))
   | _=>exact absurd (show false=true from hs) Bool.false_ne_true
 | _=>cases y <;> exact absurd (show false=true from hs) Bool.false_ne_true
theorem HF:k6 X (compareOp .Lt) (zl fun i j=> .bl (decide (i < j))):=F3 fun _ _ _ _ _ _ _ q=>lt_int q
theorem Hs:k6 X (compareOp .Gt) (zl fun i j=> .bl (decide (j < i))):=F3 fun _ _ _ _ _ _ _ q=>gt_int q
theorem HQ:k6 X (compareOp .GtE) (zl fun i j=> .bl (decide (j≤i))):=F3 fun _ _ _ _ _ _ _ q=>ge_int q
theorem yB:k6 X (compareOp .In) (fun x y H Q=>∃i j,x= .str i∧y= .str j∧Q (.bl (!(Builtin.Str.occurrences j i 0 j.length 1).isEmpty)) H):=by
 intro pins s σ H x y v u Q I rx ry h
 obtain⟨i,j,rfl,rfl,q⟩:=h
 obtain⟨t,rfl⟩:=rx
 obtain⟨t',rfl⟩:=ry
 exact in_str (bZ I q rfl)
noncomputable def isObj:HO→Bool
 | .lst _=>true
 | .ins _ _ _=>true
 | _=>false
theorem ck(b:Expr){op:CmpOp}(h:op≠ .In:=by decide)(h2:op≠ .NotIn:=by decide):behindInMarks op b=false:=by
 have e1:(op==CmpOp.In)=false:=by cases op <;> first | rfl | exact absurd rfl h
 have e2:(op==CmpOp.NotIn)=false:=by cases op <;> first | rfl | exact absurd rfl h2
 cases b <;> simp [behindInMarks,e1,e2]
theorem x4{op:CmpOp}{r:R2}(ho:k6 X (compareOp op) r)(ha:PE X a ta)(hb:PE X b tb)(hm:behindInMarks op b=false):PE X (.Compare a [op] [b] pos) (GC r ta tb):=by
 intro pins s σ H Q I h
 exact wpAny_Compare1 (FR ha hb I h fun v u s2 x y H2 I2 rx ry q=>ho pins s2 σ H2 x y v u Q I2 rx ry q) hm
noncomputable def HK(t:TE):TT:=fun σ H Q=>t σ H fun x H'=>∃k,x= .bl k∧Q k H'
theorem xZ{op:CmpOp}{r:R2}(ho:k6 X (compareOp op) r)(ha:PE X a ta)(hb:PE X b tb)(hm:behindInMarks op b=false):PT X (.Compare a [op] [b] pos) (HK (GC r ta tb)):=by
 intro pins s σ H Q I h
 refine wpAny_isTrue_Compare1 (d5 (ha pins s σ H _ I h) fun v s1 ⟨x,H1,I1,r1,q1⟩=>d5 (hb pins s1 σ H1 _ I1 q1) fun u s2 ⟨y,H2,I2,r2,q2⟩=>
  d5 (ho pins s2 σ H2 x y v u _ I2 r1 r2 q2) fun c s3 ⟨z,H3,I3,r3,k,e,q3⟩=>?_) hm
 subst e
 cases r3
 exact wpAny_truthy_bool ⟨H3,I3,q3⟩
noncomputable def Jh(r r':R2)(ta tb tc:TE):TE:=fun σ H Q=>ta σ H fun x H1=>tb σ H1 fun y H2=>r x y H2 fun z H3=>∃k,z= .bl k∧
 (if k=true then tc σ H3 fun w' H4=>r' y w' H4 Q else Q (.bl false) H3)
noncomputable def F4(K:PySem.W.Frag)(x:V)(H:Hp)(k:Bool):Prop:=
 match x with
 | .dk=>k=false
 | .bl b=>k=b
 | .int i=>k=(i !=0)
 | .str y=>y.length≤sizeLine∧k=((y.length:Int) !=0)
 | .byt y=>y.size≤sizeLine∧k=((y.size:Int) !=0)
 | .ref p=>(∃xs,mD K H p xs∧k=!xs.isEmpty)∨(∃xs,oO K H p xs∧k=!xs.isEmpty)∨∃kvs,H p=some (.dK kvs)∧k=!kvs.isEmpty
 | _=>False
theorem vH{κ:Type}{kvs:List (κ × V)}{vs:List (κ × Value)}(r:KV kvs vs):(!vs.isEmpty)=!kvs.isEmpty:=by
 cases r <;> rfl
theorem pP{xs:List V}{its:List Value}(r:Vals xs its):(!its.toArray.isEmpty)=!xs.isEmpty:=by
 cases r <;> simp
theorem nT:(sizeLine:Nat) < 2 ^ 63:=by rw[sizeLine_eq];decide
theorem E_:JB X (fun x H Q=>∃k,F4 X.K x H k∧Q k H):=by
 intro pins s σ H x v Q I rx h
 obtain⟨k,e,q⟩:=h
 have hl:=nT
 have hs:sizeLine=16777216:=sizeLine_eq
 cases x with
 | dk=>
   cases rx
   have e':k=false:=e
   subst e'
   exact truthy_none ⟨H,I,q⟩
 | bl b=>
   cases rx
   have e':k=b:=e
   subst e'
   exact wpAny_truthy_bool ⟨H,I,q⟩
 | int i=>
   obtain⟨t,rfl⟩:=rx
   have e':k=(i !=0):=e
   subst e'
   exact PySem.P.truthy_int ⟨H,I,q⟩
 | str y=>
   obtain⟨t,rfl⟩:=rx
   obtain⟨hy,e'⟩:y.length≤sizeLine∧k=((y.length:Int) !=0):=e
   subst e'
   exact PySem.P.truthy_str (by omega) ⟨H,I.tok _,q⟩
 | byt y=>
   obtain⟨t,rfl⟩:=rx
   obtain⟨hy,e'⟩:y.size≤sizeLine∧k=((y.size:Int) !=0):=e
   subst e'
   exact PySem.W.truthy_bytes (by omega) ⟨H,I.tok _,q⟩
 | ref p=>
   cases rx
   have e':(∃xs,mD X.K H p xs∧k=!xs.isEmpty)∨(∃xs,oO X.K H p xs∧k=!xs.isEmpty)∨∃kvs,H p=some (.dK kvs)∧k=!kvs.isEmpty:=e
   rcases e' with⟨xs,hx,e'⟩ | ⟨xs,hx,e'⟩ | ⟨kvs,hx,e'⟩
   ·subst e'
    obtain⟨its,r,pl,hz⟩:=I.list hx
    have hlen:=r.length
    exact wpAny_truthy_list pl.isList (by simp only[List.size_toArray];omega) ⟨H,I.tok _,by rw[pP r];exact q⟩
   ·subst e'
    obtain⟨its,r,pl,hz⟩:=I.tuple hx
    have hlen:=r.length
    exact truthy_tuple pl (by simp only[List.size_toArray];omega) ⟨H,I.tok _,by rw[pP r];exact q⟩
   ·subst e'
    obtain⟨hz,hS,vs,r,m⟩:kvs.length≤sizeLine∧(p==sysModules)=false∧∃vs,KV kvs vs∧s.heap.DictOf (dJ X.prog X.w) p vs:=I.hok p _ hx
    have hlen:kvs.length=vs.length:=Paired.length r
    exact wpAny_truthy_dict hS m (by omega) ⟨H,I.tok _,by rw[vH r];exact q⟩
 | _=>exact(show False from e).elim
theorem zA(ha:PE X a ta)(he:∀whole,isTrue a X.env whole=(do let v ←whole;standAt a.pos;holding [v] (truthy v))) :
 PT X a (fun σ H Q=>ta σ H fun x H'=>∃k,F4 X.K x H' k∧Q k H'):=by
 intro pins s σ H Q I h
 exact isTrue_plain (d5 (ha pins s σ H _ I h) fun v s1 ⟨x,H1,I1,r1,q1⟩=>E_ pins s1 σ H1 x v Q I1 r1 q1) (he _)
theorem vG:k6 X (binaryOp .Add) (fun x y H Q=>∃i j,x= .str i∧y= .str j∧i.length+j.length≤sizeLine∧Q (.str (i++j)) H):=by
 intro pins s σ H x y v u Q I rx ry h
 obtain⟨i,j,rfl,rfl,hz,q⟩:=h
 obtain⟨t,rfl⟩:=rx
 obtain⟨t',rfl⟩:=ry
 exact add_str (fun t' tk=>⟨.str (i++j),H,I.tok _,⟨_,rfl⟩,q⟩) hz
noncomputable def GX(b:Expr):Prop:=∀o i,subscripted b false o i=operate [o,i] (getItem o i)
theorem vals1{x:V}{us:List Value}(r:Vals [x] us):∃u,us=[u]∧RelV x u:=by
 cases r with
 | cons r1 r2=>cases r2;exact⟨_,rfl,r1⟩
theorem vals2{x y:V}{us:List Value}(r:Vals [x,y] us):∃u w',us=[u,w']∧RelV x u∧RelV y w':=by
 cases r with
 | cons r1 r2=>
   cases r2 with
   | cons r3 r4=>cases r4;exact⟨_,_,rfl,r1,r3⟩
theorem zZ:kq X (.builtin "abs") (fun xs H Q=>∃i,xs=[.int i]∧Q (.int (if i < 0 then -i else i)) H):=by
 intro pins s σ H xs us Q I r h
 obtain⟨i,rfl,q⟩:=h
 obtain⟨u,rfl,t,rfl⟩:=vals1 r
 exact call_abs_int fun u tk=>⟨.int (if i < 0 then -i else i),H,I.tok _,⟨_,rfl⟩,q⟩
theorem ze(hc:X.calm=true):kq X (.builtin "max") (fun xs H Q=>∃i j,xs=[.int i, .int j]∧Q (.int (if j > i then j else i)) H):=by
 intro pins s σ H xs us Q I r h
 obtain⟨i,j,rfl,q⟩:=h
 obtain⟨u,w',rfl,⟨t,rfl⟩,⟨t',rfl⟩⟩:=vals2 r
 refine max_two_ints (I.ok.hd hc) fun h' tk k=>⟨_,H,I.kept k,?_,q⟩
 by_cases hj:j > i
 ·rw[if_pos hj,if_pos hj];exact⟨_,rfl⟩
 ·rw[if_neg hj,if_neg hj];exact⟨_,rfl⟩
theorem yR(hc:X.calm=true):kq X (.builtin "min") (fun xs H Q=>∃i j,xs=[.int i, .int j]∧Q (.int (if j < i then j else i)) H):=by
 intro pins s σ H xs us Q I r h
 obtain⟨i,j,rfl,q⟩:=h
 obtain⟨u,w',rfl,⟨t,rfl⟩,⟨t',rfl⟩⟩:=vals2 r
 refine min_two_ints (I.ok.hd hc) fun h' tk k=>⟨_,H,I.kept k,?_,q⟩
 by_cases hj:j < i
 ·rw[if_pos hj,if_pos hj];exact⟨_,rfl⟩
 ·rw[if_neg hj,if_neg hj];exact⟨_,rfl⟩
theorem yY:kq X (.type "int") (fun xs H Q=>(∃i,xs=[.int i]∧Q (.int i) H)∨∃k,xs=[.bl k]∧Q (.int (if k then 1 else 0)) H):=by
 intro pins s σ H xs us Q I r h
 rcases h with⟨i,rfl,q⟩ | ⟨k,rfl,q⟩
 ·obtain⟨u,rfl,t,rfl⟩:=vals1 r
  exact call_int_int ⟨.int i,H,I,⟨_,rfl⟩,q⟩
 ·obtain⟨u,rfl,r1⟩:=vals1 r
  cases r1
  exact call_int_bool ⟨.int (if k then 1 else 0),H,I.tok _,⟨_,rfl⟩,q⟩
noncomputable def IB(K:PySem.W.Frag)(x:V)(H:Hp)(n:Nat):Prop:=
 match x with
 | .str y=>y.length≤sizeLine∧n=y.length
 | .byt y=>y.size≤sizeLine∧n=y.size
 | .ref p=>(∃xs,mD K H p xs∧n=xs.length)∨∃xs,oO K H p xs∧n=xs.length
 | _=>False
theorem Bs:kq X (.builtin "len") (fun xs H Q=>∃x n,xs=[x]∧IB X.K x H n∧Q (.int n) H):=by
 intro pins s σ H xs us Q I r h
 obtain⟨x,n,rfl,e,q⟩:=h
 obtain⟨u,rfl,rx⟩:=vals1 r
 have hl:=nT
 have hs:sizeLine=16777216:=sizeLine_eq
 cases x with
 | str y=>
   obtain⟨t,rfl⟩:=rx
   obtain⟨hy,e'⟩:y.length≤sizeLine∧n=y.length:=e
   subst e'
   exact len_str (by omega) ⟨.int _,H,I.tok _,⟨_,rfl⟩,q⟩
 | byt y=>
   obtain⟨t,rfl⟩:=rx
   obtain⟨hy,e'⟩:y.size≤sizeLine∧n=y.size:=e
   subst e'
   exact PySem.W.len_bytes (by omega) ⟨.int _,H,I.tok _,⟨_,rfl⟩,q⟩
 | ref p=>
   cases rx
   have e':(∃xs,mD X.K H p xs∧n=xs.length)∨∃xs,oO X.K H p xs∧n=xs.length:=e
   rcases e' with⟨xs,hx,e'⟩ | ⟨xs,hx,e'⟩
   ·subst e'
    obtain⟨its,r',pl,hz⟩:=I.list hx
    have hlen:=r'.length
    exact Calls.call_len_list pl.isList (by simp only[List.size_toArray];omega) ⟨.int xs.length,H,I.tok _,⟨_,by simp only[List.size_toArray];rw [hlen]⟩,q⟩
   ·subst e'
    obtain⟨its,r',pl,hz⟩:=I.tuple hx
    have hlen:=r'.length
    exact len_tuple pl (by simp only[List.size_toArray];omega) ⟨.int xs.length,H,I.tok _,⟨_,by simp only[List.size_toArray];rw [hlen]⟩,q⟩
 | _=>exact(show False from e).elim
end
end L2
namespace L2
open PySem PySem.Spec PyProof.Rows
structure wt (h:Heap) (x dx C:Addr) (mA:Str→Option Value):Prop where
 obj:h.get? x=some (PySem.W.instObj C dx)
 ns:h.Ns1 dx mA
 ne:dx≠x
theorem yO{h:Heap}{dx:Addr}{mA:Str→Option Value}(n:h.Ns1 dx mA):∃od,h.get? dx=some od∧∀name,PySem.W.lookIn name od=some (mA name):=by
 obtain⟨o,es,ep,ho,hd,hk,_,hm⟩:=n
 refine⟨o,ho,fun name=>?_⟩
 have e:=hm name
 unfold nsFind findBy at e
 rw[←Array.find?_toList] at e
 unfold PySem.W.lookIn
 rw[hd]
 dsimp only
 split
 ·rename_i y q
  rw[q] at e
  exact congrArg some e
 ·rename_i q
  rw[q] at e
  have a:es.toList.any (·.refKey)=false:=by
   rw[List.any_eq_false]
   intro y hy
   obtain⟨z,t,hkey⟩:=hk y (Array.mem_toList_iff.mp hy)
   simp [DictEntry.refKey,hkey]
  have a':¬es.toList.any (·.refKey)=true:=by rw[a];exact Bool.false_ne_true
  rw[if_neg a']
  exact congrArg some e
theorem wt.look{h:Heap}{x dx C:Addr}{mA:Str→Option Value}(I:wt h x dx C mA):∃od,PySem.W.InstAt h x (PySem.W.instObj C dx) C (some od)∧∀name,PySem.W.lookIn name od=some (mA name):=
 let⟨od,ho,hl⟩:=yO I.ns
 ⟨od,⟨I.obj,rfl,rfl,ho⟩,hl⟩
section
variable {prog:Program} {w:World} {A:Around} {E:Value→Shared→Prop} {s:Shared} {K:PySem.W.Frag} {x dx C f:Addr} {mA:Str→Option Value} {name:Str} {v:Value}
theorem get_map{expr:Bool}{Q:Value→Shared→Prop}(X:K.In s.heap)(I:wt s.heap x dx C mA)(hg:PySem.W.plainGet K C name=true)(hh:PySem.W.hasDictIn K C=true)
 (ha:PySem.W.findIn K (.ref C) name=some none) (hv:mA name=some v) (hv':PySem.W.handedIn v=true) (h:Q v {s with toks:=s.toks+1}) :
 wpAny (model prog w) A (getAttr (.ref x) name expr) Q E s:=by
 obtain⟨od,J,hl⟩:=I.look
 exact PySem.W.get_value X J (PySem.W.plainGet_of hg).1 (PySem.W.findObj_own hh ha rfl (by rw[hl,hv])) hv' h
theorem Ao{pl:Sem Bool}{Q:Value × List Value→Shared→Prop}(X:K.In s.heap)(I:wt s.heap x dx C mA)(hg:PySem.W.plainGet K C name=true)
 (hf:PySem.W.findIn K (.ref C) name=some (some (.ref f))) (ht:PySem.W.isFn K (.ref f)=true) (hv:mA name=none) (h:Q (.ref f,[.ref x]) s) :
 wpAny (model prog w) A (getMethod (.ref x) name pl) Q E s:=by
 obtain⟨od,J,hl⟩:=I.look
 exact PySem.W.method_fn X J (PySem.W.plainGet_of hg).1 (PySem.W.plainGet_of hg).2 hf (beq_iff_eq.mp ht) (by show(PySem.W.lookIn name od).map (·.isSome)=some false;rw [hl,hv];rfl) h
theorem Dl{ns:List Str}{Q:Unit→Shared→Prop}(X:K.In s.heap)(I:wt s.heap x dx C mA)
 (hs:PySem.W.findIn K (.ref C) "__setattr__"=some (some (.builtin "object.__setattr__"))) (hp:PySem.W.plainOver K C=true) (ht:PySem.W.takerIn K C name=some none) (hh:PySem.W.hasDictIn K C=true)
 (hw:PySem.Within mA ns) (hsz:ns.length≤sizeLine)
 (h:∀h',wt h' x dx C (fun y=>if y=name then some v else mA y)→Heap.SameBut dx s.heap h'→Q () {s with heap:=h',toks:=s.toks+2}) :
 wpAny (model prog w) A (setAttr (.ref x) name v) Q E s:=by
 obtain⟨od,J,hl⟩:=I.look
 refine PySem.W.set_plain X J hs (PySem.W.osa_open (s:={s with toks:=s.toks+1}) (r:=none) X J hp ht fun b=>?_)
 obtain⟨cd,hc,hd'⟩:=PySem.W.any_some hh
 have hx:s.heap.get? x=some ⟨.ref C,some dx, .plain,#[]⟩:=I.obj
 refine wpAny_bind (wpAny_pure (wpAny_bind (wpAny_bind (wpAny_loadPart hx (wpAny_bind (PySem.W.Looks.here (s:={s with toks:=s.toks+1}) (PySem.W.looks_clsIn X hc) ?_))))))
 rw[hd']
 refine wpAny_pure (a:=some dx) (wpAny_bind (wpAny_pure (wpAny_bind ?_)))
 refine wpAny_nsSet1 (s:={s with toks:=s.toks+1}) I.ns fun h' hn2 hs2=>?_
 obtain⟨oD,esD,epD,hoD,hdD,hcD⟩:=hn2.count (PySem.Within.cons name v hw)
 refine wpAny_bind (wpAny_lookBehind hoD (by rw[hdD];exact pastItsLine_dict (Nat.le_trans hcD (by rw[List.length_cons];omega))) ?_)
 exact wpAny_pure (h _ ⟨(hs2.2 _ (Ne.symm I.ne)).trans I.obj,hn2,I.ne⟩ hs2)
theorem zQ{R:Result→Shared→Prop}{vs:List Value}{kw:List (Str × Value)}(X:K.In s.heap)(hm:PySem.W.makesIn K C=true)
 (hi:PySem.W.findIn K (.ref C) "__init__"=some (some (.ref f))) (hf:PySem.W.typeIn K (.ref f)=some (.type "function"))
 (h:codeAny (model prog w) (A.under (.builtin "type.__call__" ⟨.ref C ::vs,kw⟩)) (.call (.ref f) ⟨.ref (s.heap.objs.size+1) ::vs,kw⟩) (PySem.W.InitBack (s.heap.objs.size+1) R)
   {s with heap:=(s.heap.push PySem.W.emptyDict).push (PySem.W.instObj C s.heap.objs.size)}) :
 codeAny (model prog w) A (.call (.ref C) ⟨vs,kw⟩) R s:=by
 obtain⟨hh,g,d,t,os⟩:=s
 exact PySem.W.make_core (PySem.W.makes_of X hm) (PySem.W.looks_findIn X hi) (fun self=>PySem.W.bind_fn X self hf) (.inl rfl) h
end
noncomputable def jc(f:Str)(v:V):List (Str × V)→List (Str × V)
 | []=>[(f,v)]
 | (g,x) ::r=>if g=f then(g,v) ::r else(g,x) ::jc f v r
theorem oB(f g:Str)(v:V):∀fs:List (Str × V),(jc f v fs).lookup g=if g=f then some v else fs.lookup g
 | []=>by
   show List.lookup g [(f,v)]=_
   by_cases h:g=f
   ·have hb:(g==f)=true:=beq_iff_eq.mpr h
    simp only[List.lookup,hb,if_pos h]
   ·have hb:(g==f)=false:=beq_eq_false_iff_ne.mpr h
    simp only[List.lookup,hb,if_neg h]
 | (k,x) ::r=>by
   have ih:=oB f g v r
   rw[show jc f v ((k,x) ::r)=(if k=f then(k,v) ::r else(k,x) ::jc f v r) from rfl]
   by_cases hk:k=f
   ·rw[if_pos hk]
    by_cases h:g=k
    ·have hb:(g==k)=true:=beq_iff_eq.mpr h
     simp only[List.lookup,hb,if_pos (h.trans hk)]
    ·have hb:(g==k)=false:=beq_eq_false_iff_ne.mpr h
     simp only[List.lookup,hb,if_neg (fun e:g=f=>h (e.trans hk.symm))]
   ·rw[if_neg hk]
    by_cases h:g=k
    ·have hb:(g==k)=true:=beq_iff_eq.mpr h
     simp only[List.lookup,hb,if_neg (fun e:g=f=>hk (h.symm.trans e))]
    ·have hb:(g==k)=false:=beq_eq_false_iff_ne.mpr h
     simp only[List.lookup,hb]
     exact ih
theorem nH(f:Str)(v:V):∀fs:List (Str × V),f∈(jc f v fs).map (·.1)∧∀g,g∈fs.map (·.1)→g∈(jc f v fs).map (·.1)
 | []=>⟨by simp [jc],fun g h=>by simp at h⟩
 | (k,x) ::r=>by
   obtain⟨i1,i2⟩:=nH f v r
   rw[show jc f v ((k,x) ::r)=(if k=f then(k,v) ::r else(k,x) ::jc f v r) from rfl]
   by_cases hk:k=f
   ·rw[if_pos hk]
    subst hk
    exact⟨by simp,fun g h=>by simpa using h⟩
   ·rw[if_neg hk]
    refine⟨?_,fun g h=>?_⟩
    ·rw[List.map_cons]
     exact List.mem_cons_of_mem _ i1
    ·rw[List.map_cons] at h ⊢
     rcases List.mem_cons.mp h with e | e
     ·exact List.mem_cons.mpr (.inl e)
     ·exact List.mem_cons_of_mem _ (i2 g e)
theorem oh(f:Str)(v:V):∀fs:List (Str × V),(jc f v fs).length≤fs.length+1
 | []=>by simp [jc]
 | (k,x) ::r=>by
   have ih:=oh f v r
   rw[show jc f v ((k,x) ::r)=(if k=f then(k,v) ::r else(k,x) ::jc f v r) from rfl]
   by_cases hk:k=f
   ·rw[if_pos hk,List.length_cons,List.length_cons];omega
   ·rw[if_neg hk,List.length_cons,List.length_cons];omega
theorem mJ.some_of{v:V}{o:Option Value}(r:mJ (some v) o):∃u,o=some u∧RelV v u:=by
 cases o with
 | none=>exact(show False from r).elim
 | some u=>exact⟨u,rfl,r⟩
theorem mJ.none_of{o:Option Value}(r:mJ none o):o=none:=by
 cases o with
 | none=>rfl
 | some u=>exact(show False from r).elim
theorem zh{v:V}{u:Value}(r:RelV v u):PySem.W.handedIn u=true:=by
 cases v with
 | dk=>cases(show u=Value.none from r);rfl
 | bl b=>cases(show u=Value.bool b from r);rfl
 | int i=>obtain⟨t,e⟩:=(show ∃t,u=Value.int i t from r);cases e;rfl
 | str x=>obtain⟨t,e⟩:=(show ∃t,u=Value.str x t from r);cases e;rfl
 | byt b=>obtain⟨t,e⟩:=(show ∃t,u=Value.bytes b t from r);cases e;rfl
 | flt b=>obtain⟨t,e⟩:=(show ∃t,u=Value.float b t from r);cases e;rfl
 | ref a=>cases(show u=Value.ref a from r);rfl
 | ty n=>cases(show u=Value.type n from r);rfl
section
variable {P:Program} {w:World} {H H':Hp} {h h':Heap} {a C dx:Addr} {fs fs':List (Str × V)}
theorem sG(hok:lr P w H h)(e:H a=some (.ins C dx fs)):∃mA,wt h a dx C mA∧(∀f,mJ (fs.lookup f) (mA f))∧PySem.Within mA (fs.map (·.1))∧fs.length≤1000∧H dx=some (.own a):=by
 obtain⟨d,z,ne,ob,mA,n,r,q⟩:=(show e_ P w H h a (.ins C dx fs) from hok a _ e)
 exact⟨mA,⟨ob,n,ne⟩,r,q,z,d⟩
end
structure tH (K:PySem.W.Frag) (C:Addr):Prop where
 pg:PySem.W.plainGet K C Str.empty=true
 hd:PySem.W.hasDictIn K C=true
 po:PySem.W.plainOver K C=true
 sa:PySem.W.findIn K (.ref C) "__setattr__"=some (some (.builtin "object.__setattr__"))
theorem tH.get{K:PySem.W.Frag}{C:Addr}(c:tH K C)(f:Str):PySem.W.plainGet K C f=true:=c.pg
noncomputable def df(K:PySem.W.Frag)(C:Addr)(f:Str):Prop:=PySem.W.findIn K (.ref C) f=some none
theorem df.Hg{K:PySem.W.Frag}{C:Addr}{f:Str}(n:df K C f):PySem.W.takerIn K C f=some none:=by
 unfold PySem.W.takerIn
 rw[show PySem.W.findIn K (.ref C) f=some none from n]
 rfl
structure Lh (K:PySem.W.Frag) (C:Addr) (f:Str) (v:V) (u:Value):Prop where
 at_:PySem.W.findIn K (.ref C) f=some (some u)
 rel:RelV v u
 get:PySem.W.specialIn K u "__get__"=some none
 cp:PySem.W.copiedNames.contains f=false
structure Meth (K:PySem.W.Frag) (C:Addr) (m:Str) (f:Addr):Prop where
 at_:PySem.W.findIn K (.ref C) m=some (some (.ref f))
 fn:PySem.W.isFn K (.ref f)=true
 kp:PySem.W.keepIn K (.ref f)=true
section
variable {X:Cx} {pins:List (Addr × Obj)} {σ:St} {H:Hp} {s:Shared} {a C dx:Addr} {fs:List (Str × V)} {f:Str} {v:V} {A:Around} {E:Value→Shared→Prop}
theorem vZ{b:Bool}{Q:Value→Shared→Prop}(I:Inv X pins σ H s)(e:H a=some (.ins C dx fs))(c:tH X.K C)(n:df X.K C f)(l:fs.lookup f=some v)
 (h:∀u s',Inv X pins σ H s'→RelV v u→Q u s'):wpAny (model X.prog X.w) A (getAttr (.ref a) f b) Q E s:=by
 obtain⟨mA,O,r,_,_,_⟩:=sG I.hok e
 obtain⟨u,hu,ru⟩:=mJ.some_of (v:=v) (o:=mA f) (by rw[←l];exact r f)
 exact get_map I.xA O (c.get f) c.hd n hu (zh ru) (h u _ (I.tok _) ru)
theorem wC{m:Str}{g:Addr}{pl:Sem Bool}{Q:Value × List Value→Shared→Prop}(I:Inv X pins σ H s)(e:H a=some (.ins C dx fs))(c:tH X.K C)(k:Meth X.K C m g)(l:fs.lookup m=none)
 (h:Q (.ref g,[.ref a]) s):wpAny (model X.prog X.w) A (getMethod (.ref a) m pl) Q E s:=by
 obtain⟨mA,O,r,_,_,_⟩:=sG I.hok e
 have hn:mA m=none:=mJ.none_of (by rw[←l];exact r m)
 exact Ao I.xA O (c.get m) k.at_ k.fn hn h
theorem vW{y:V}{u:Value}{Q:Unit→Shared→Prop}(I:Inv X pins σ H s)(e:H a=some (.ins C dx fs))(c:tH X.K C)(n:df X.K C f)(hl:fs.length < 1000)(ry:RelV y u)
 (h:∀s',Inv X pins σ (upd H a (.ins C dx (jc f y fs))) s'→Q () s'):wpAny (model X.prog X.w) A (setAttr (.ref a) f u) Q E s:=by
 obtain⟨mA,O,r,wi,_,ho⟩:=sG I.hok e
 have hz:(fs.map (·.1)).length≤sizeLine:=by rw[List.length_map,sizeLine_eq];omega
 refine Dl I.xA O c.sa c.po n.Hg c.hd wi hz fun h' O' sb=>h _ ?_
 have hd:∃o,h'.get? dx=some o:=let⟨o,_,_,e',_⟩:=O'.ns;⟨o,e'⟩
 refine I.write (x:=a) (e:=dx) (by rw[e];exact True.intro) (.inr ho) (fun b q hb z=>(sb.2 b hb).trans z) hd ?_
 refine⟨by rw[ba O.ne];exact ho,?_,O.ne,O'.obj,_,O'.ns,fun g=>?_,fun g hg=>?_⟩
 ·have:=oh f y fs;omega
 ·show mJ ((jc f y fs).lookup g) (if g=f then some u else mA g)
  rw[oB]
  by_cases q:g=f
  ·rw[if_pos q,if_pos q];exact ry
  ·rw[if_neg q,if_neg q];exact r g
 ·by_cases q:g=f
  ·rw[q];exact(nH f y fs).1
  ·refine(nH f y fs).2 g (wi g fun z=>hg ?_)
   show(if g=f then some u else mA g)=none
   rw[if_neg q];exact z
theorem Inv.made(I:Inv X pins σ H s):Inv X pins σ (upd (upd H s.heap.objs.size (.own (s.heap.objs.size+1))) (s.heap.objs.size+1) (.ins C s.heap.objs.size []))
 {s with heap:=(s.heap.push PySem.W.emptyDict).push (PySem.W.instObj C s.heap.objs.size)}:=by
 have e1:(s.heap.push PySem.W.emptyDict).get? s.heap.objs.size=some PySem.W.emptyDict:=Heap.get?_push_size s.heap rfl
 have e2:((s.heap.push PySem.W.emptyDict).push (PySem.W.instObj C s.heap.objs.size)).get? (s.heap.objs.size+1)=some (PySem.W.instObj C s.heap.objs.size):=by
  have:=Heap.get?_push_size (s.heap.push PySem.W.emptyDict) (o:=PySem.W.instObj C s.heap.objs.size) rfl
  rwa [Heap.size_push] at this
 have e3:(s.heap.push PySem.W.emptyDict).Ns s.heap.objs.size (fun _=>none):=⟨PySem.W.emptyDict,#[],_,e1,rfl,(fun e he=>absurd he (by simp)),fun _=>rfl⟩
 have I1:=I.laid (a:=s.heap.objs.size) (o:= .own (s.heap.objs.size+1)) (h':=s.heap.push PySem.W.emptyDict) (t':=s.toks) (fun b u q=>Heap.get?_push_of_some _ q) (Nat.le_refl _) ⟨_,e1⟩
 refine I1.laid (a:=s.heap.objs.size+1) (o:= .ins C s.heap.objs.size []) (t':=s.toks) (fun b u q=>Heap.get?_push_of_some _ q) (Nat.le_of_eq (Heap.size_push _ _)) ?_
 have ne:s.heap.objs.size≠s.heap.objs.size+1:=Nat.ne_of_lt (Nat.lt_succ_self _)
 refine⟨by rw[ba ne,bc],Nat.zero_le _,ne,e2,fun _=>none,(Heap.Ns1.of_empty e3).at fun o q=>Heap.get?_push_of_some _ q,fun _=>True.intro,fun y hy=>absurd rfl hy⟩
theorem CB{prog:Program}{w:World}{env:Env}{e:Expr}{f:Str}{pos:Pos}{s:Shared}{Q:Value→Shared→Prop}(hb:attributeBase e f env (eval e env)=eval e env)
 (h:wpAny (model prog w) A (eval e env) (fun o s₁=>wpAny (model prog w) A (getAttr o f true) Q E s₁) E s):wpAny (model prog w) A (eval (.Attribute e f pos) env) Q E s:=
 Attribute_any_ h (by rw[arm_eval_Attribute,hb])
end
noncomputable def JD(K:PySem.W.Frag)(ta:TE)(f:Str):TE:=fun σ H Q=>ta σ H fun x H1=>∃a C dx fs v,x= .ref a∧H1 a=some (.ins C dx fs)∧tH K C∧df K C f∧fs.lookup f=some v∧Q v H1
noncomputable def LB(K:PySem.W.Frag)(ta:TE)(f:Str):TE:=fun σ H Q=>ta σ H fun x H1=>∃a C dx fs v u,x= .ref a∧H1 a=some (.ins C dx fs)∧tH K C∧Lh K C f v u∧fs.lookup f=none∧Q v H1
noncomputable def Jw(K:PySem.W.Frag)(ta tv:TE)(f:Str):TS:=fun D σ H=>tv σ H fun y H1=>ta σ H1 fun x H2=>∃a C dx fs,x= .ref a∧H2 a=some (.ins C dx fs)∧tH K C∧df K C f∧fs.length < 1000∧
 D.nx σ (upd H2 a (.ins C dx (jc f y fs)))
noncomputable def KP(X:Cx)(op:Operator)(rd:V→V→Hp→VK→Prop):Prop:=
 ∀(pins:List (Addr × Obj)) (s:Shared) (σ:St) (H:Hp) (x y:V) (u v:Value) (Q:VK),Inv X pins σ H s→RelV x u→RelV y v→rd x y H Q→wpAny (model X.prog X.w) X.A (inplaceOp op u v) (EP X pins σ Q) X.xe s
noncomputable def Iv(K:PySem.W.Frag)(ta tv:TE)(rd:V→V→Hp→VK→Prop)(f:Str):TS:=fun D σ H=>ta σ H fun x H1=>∃a C dx fs v,x= .ref a∧H1 a=some (.ins C dx fs)∧tH K C∧df K C f∧fs.lookup f=some v∧
 tv σ H1 fun y H2=>rd v y H2 fun z H3=>∃dx' fs',H3 a=some (.ins C dx' fs')∧fs'.length < 1000∧D.nx σ (upd H3 a (.ins C dx' (jc f z fs')))
section
variable {X:Cx} {o e value:Expr} {f:Str} {pos pos' tpos:Pos} {ta tv:TE}
theorem EW(he:PE X e ta)(hb:attributeBase e f X.env (eval e X.env)=eval e X.env):PE X (.Attribute e f pos) (JD X.K ta f):=by
 intro pins s σ H Q I h
 refine CB hb (d5 (he pins s σ H _ I h) fun u s1 ⟨x,H1,I1,rx,a,C,dx,fs,v,ex,ea,c,n,l,q⟩=>?_)
 subst ex
 obtain rfl:u=Value.ref a:=rx
 exact vZ I1 ea c n l fun u' s2 I2 ru=>⟨v,H1,I2,ru,q⟩
theorem FN(ha:PE X o ta)(hv:PE X value tv)(hs:swapsWith value (some (.Attribute o f pos')) pos.line X.env=pure false):PS X (.Assign [.Attribute o f pos'] value pos) (Jw X.K ta tv f):=by
 intro pins s σ H D I h
 refine plainObj_wpAny_Assign_Attribute (d5 (hv pins s σ H _ I h) fun u s1 ⟨y,H1,I1,ry,q⟩=>d5 (ha pins s1 σ H1 _ I1 q) fun ov s2 ⟨x,H2,I2,rx,a,C,dx,fs,ex,ea,c,n,l,q2⟩=>?_) hs
 subst ex
 obtain rfl:ov=Value.ref a:=rx
 exact vW I2 ea c n l ry fun s3 I3=>⟨σ,_,I3,q2⟩
noncomputable def Lm:V→V→Hp→VK→Prop:=fun x y H Q=>∃i j,x= .int i∧y= .int j∧Q (.int (i+j)) H
noncomputable def KL:V→V→Hp→VK→Prop:=fun x y H Q=>∃i j,x= .int i∧y= .int j∧Q (.int (i - j)) H
end
section
variable {X:Cx} {pins:List (Addr × Obj)} {σ:St} {H:Hp} {s:Shared} {A:Around} {E:Value→Shared→Prop} {Q:Value→Shared→Prop} {c:Value} {b:Bool}
inductive ql (K:PySem.W.Frag) (H:Hp):V→Value→Prop where
 | dk:ql K H .dk (.type "NoneType")
 | bl (x:Bool):ql K H (.bl x) (.type "bool")
 | int (i:Int):ql K H (.int i) (.type "int")
 | str (x:Str):ql K H (.str x) (.type "str")
 | flt (x:UInt64):ql K H (.flt x) (.type "float")
 | lst {a:Addr} {xs:List V} (e:H a=some (.lst xs)):ql K H (.ref a) (.type "list")
 | iF {a:Addr} {o:Obj} {xs:List V} (e:H a=some (.iF o (.lst xs))):ql K H (.ref a) (.type "list")
 | tup {a:Addr} {xs:List V} (e:H a=some (.tup xs)):ql K H (.ref a) (.type "tuple")
 | dK {a:Addr} {kvs:List (Key × V)} (e:H a=some (.dK kvs)):ql K H (.ref a) (.type "dict")
 | dT {a:Addr} {kvs:List (List Key × V)} (e:H a=some (.dT kvs)):ql K H (.ref a) (.type "dict")
 | ins {a C dx:Addr} {fs:List (Str × V)} (e:H a=some (.ins C dx fs)) (cl:tH K C) (ha:PySem.W.findIn K (.ref C) "__class__"=some (some (.builtin "object.__class__")))
    (hn:PySem.W.specialIn K (.builtin "object.__class__") "__get__"=some (some (.builtin "getset_descriptor.__get__"))) (htk:PySem.W.takesIn K (.builtin "object.__class__")=some true)
    (hm:PySem.W.mroIn K C (.type "object")=some true):ql K H (.ref a) (.ref C)
end
end L2
namespace L2
open PySem PySem.Spec PyProof.Rows
structure eI (k:Nat) (A:Around):Prop where
 hd:A.handled=none
 dp:A.depth+3*k+5 < recursionLimit
 un:A.units+16*k+200 < cLine
theorem eI.mono{j k:Nat}{A:Around}(r:eI k A)(h:j≤k):eI j A:=⟨r.hd,by have:=r.dp;omega,by have:=r.un;omega⟩
theorem eI.deeper{k:Nat}{A:Around}(r:eI (k+1) A)(env:Env):eI k (A.deeper env):=
 ⟨r.hd,by have:=r.dp;show A.depth+1+3*k+5 < _;omega,by have:=r.un;show A.units+3+16*k+200 < _;omega⟩
theorem wy{A:Around}{C:Addr}{us:List Value}{kw:List (Str × Value)}:(A.under (.builtin "type.__call__" ⟨.ref C ::us,kw⟩)).depth=A.depth+1:=by
 first | rfl | simp [Around.under,Code.weight,Code.isCreation,Code.isGuard,Code.isCaller,Code.frames,Code.isFrame,guardIds]
theorem vY{A:Around}{C:Addr}{us:List Value}{kw:List (Str × Value)}:(A.under (.builtin "type.__call__" ⟨.ref C ::us,kw⟩)).units=A.units+1:=by
 first | rfl | simp [Around.under,Code.cUnits,Code.frames,Code.isFrame]
theorem eI.make{k:Nat}{A:Around}(r:eI (k+1) A)(C:Addr)(us:List Value)(kw:List (Str × Value)):eI k (A.under (.builtin "type.__call__" ⟨.ref C ::us,kw⟩)):=
 ⟨r.hd,by have:=r.dp;rw [wy];omega,by have:=r.un;rw [vY];omega⟩
theorem eI.depth{k:Nat}{A:Around}(r:eI k A):A.depth < recursionLimit:=by have:=r.dp;omega
theorem eI.units{k:Nat}{A:Around}(r:eI k A):A.units+64 < cLine:=by have:=r.un;omega
noncomputable def JE:TA:=fun _ H Q=>Q [] H
noncomputable def HC(ta:TE)(tr:TA):TA:=fun σ H Q=>ta σ H fun x H1=>tr σ H1 fun xs H2=>Q (x ::xs) H2
section
variable {X:Cx} {e:Expr} {es:List Expr} {te:TE} {t:TA} {pos:Pos}
theorem jf:PA X [] JE:=fun _ _ _ _ H Q I h=>Calls.spliced_nil ⟨[],H,I, .nil,h⟩
theorem gJ(ha:PE X e te)(hr:PA X es t)(hs:starEach (e ::es) X.env=(false,eval e X.env) ::starEach es X.env:=by rfl):PA X (e ::es) (HC te t):=by
 intro pos pins s σ H Q I h
 rw[hs]
 show wpAny _ _ (spliced ((false,eval e X.env) ::backTo pos (starEach es X.env))) _ _ s
 refine Calls.spliced_cons (d5 (ha pins s σ H _ I h) fun u s1 ⟨x,H1,I1,r1,q1⟩=>?_)
 exact d5 (hr pos pins s1 σ H1 _ I1 q1) fun us s2 ⟨xs,H2,I2,r2,q2⟩=>⟨x ::xs,H2,I2, .cons r1 r2,q2⟩
noncomputable def Jx(t:TA):TE:=fun σ H Q=>t σ H fun xs H1=>xs.length≤sizeLine∧∀p,H1 p=none→Q (.ref p) (upd H1 p (.tup xs))
noncomputable def IV(t:TA):TE:=fun σ H Q=>t σ H fun xs H1=>xs.length≤sizeLine∧∀p,H1 p=none→Q (.ref p) (upd H1 p (.lst xs))
theorem zK{x1}(h:PA X es t):PE X (.Tuple es x1 pos) (Jx t):=by
 intro pins s σ H Q I hq
 refine wpAny_Tuple_spliced (d5 (h pos pins s σ H _ I hq) fun us s1 ⟨xs,H1,I1,r,z,q⟩=>⟨by rw[←r.length];exact z,?_⟩)
 have hf:H1 s1.heap.objs.size=none:=I1.hok.fresh (Nat.le_refl _)
 refine⟨.ref s1.heap.objs.size,upd H1 s1.heap.objs.size (.tup xs),I1.laid (t':=s1.toks) (fun b u e=>Heap.get?_push_of_some _ e) (Nat.le_refl _) ?_,rfl,q _ hf⟩
 exact⟨z,us,r,⟨_,Heap.get?_push_size _ rfl,rfl,_,rfl⟩⟩
theorem A9(h:PA X es t):PE X (.List es pos) (IV t):=by
 intro pins s σ H Q I hq
 refine wpAny_List_spliced (d5 (h pos pins s σ H _ I hq) fun us s1 ⟨xs,H1,I1,r,z,q⟩=>⟨by rw[←r.length];exact z,?_⟩)
 have hf:H1 s1.heap.objs.size=none:=I1.hok.fresh (Nat.le_refl _)
 refine⟨.ref s1.heap.objs.size,upd H1 s1.heap.objs.size (.lst xs),I1.laid (t':=s1.toks) (fun b u e=>Heap.get?_push_of_some _ e) (Nat.le_refl _) ?_,rfl,q _ hf⟩
 exact⟨z,us,0,r,Heap.get?_push_size _ rfl⟩
end
noncomputable abbrev Sp:=List V→Hp→VK→XK→Prop
noncomputable abbrev AW:=List Env→Hp→Shared→XK→Value→Shared→Prop
structure vV (P:Program) (w:World) (K:PySem.W.Frag) (mg:Str→Option Value) (base:Heap) (A:Around) (outer:List Env) (s:Shared) (H:Hp):Prop where
 frames:A.frames=some outer
 mod:Mod K mg base
 bs:∀b o,base.get? b=some o→s.heap.get? b=some o∧H b=none
 bsz:base.objs.size≤s.heap.objs.size
 oT:s.heap.FunFrames base outer
 frf:∀b∈zq outer,H b=none
 hok:lr P w H s.heap
 bare:AllBare s.gens
noncomputable def CE(outer:List Env)(P:Program)(w:World)(H:Hp)(s:Shared)(Q:VK)(u:Value)(s':Shared):Prop:=
 ∃v H',s'.os=s.os∧AllBare s'.gens∧Un (zq outer) [] H H' s.heap s'.heap∧lr P w H' s'.heap∧RelV v u∧Q v H'
noncomputable def CR(CX:AW)(outer:List Env)(P:Program)(w:World)(H:Hp)(s:Shared)(Q:VK)(E:XK)(r:Result)(s':Shared):Prop:=
 match r with
 | .ok (.ret u)=>CE outer P w H s Q u s'
 | .ok _=>False
 | .error e=>CX outer H s E e s'
structure hJ (P:Program) (w:World) (K:PySem.W.Frag) (mg:Str→Option Value) (base:Heap) (CX:AW) (k:Nat) (f:Addr) (fd:FuncData) (ps:List Str) (sp:Sp):Prop where
 len:∀vs H Q E,sp vs H Q E→vs.length=ps.length
 run:∀(A:Around) (outer:List Env) (s:Shared) (H:Hp) (args:Args) (us:List Value) (vs:List V) (Q:VK) (E:XK),eI k A→vV P w K mg base A outer s H→BindsTo s fd args (ps.zip us)→Vals vs us→sp vs H Q E→
  codeAny (model P w) A (.call (.ref f) args) (CR CX outer P w H s Q E) s
theorem hJ.imp{P:Program}{w:World}{K:PySem.W.Frag}{mg:Str→Option Value}{base:Heap}{CX:AW}{k:Nat}{f:Addr}{fd:FuncData}{ps:List Str}{sp sp':Sp}(F:hJ P w K mg base CX k f fd ps sp)
 (h:∀vs H Q E,sp' vs H Q E→sp vs H Q E):hJ P w K mg base CX k f fd ps sp':=
 ⟨fun vs H Q E q=>F.len vs H Q E (h _ _ _ _ q),fun A outer s H args us vs Q E hr he hb hv hs=>F.run A outer s H args us vs Q E hr he hb hv (h _ _ _ _ hs)⟩
theorem vV.make{P:Program}{w:World}{K:PySem.W.Frag}{mg:Str→Option Value}{base:Heap}{A:Around}{outer:List Env}{s:Shared}{H:Hp}(e:vV P w K mg base A outer s H)(C:Addr)(us:List Value)(kw:List (Str × Value)) :
 vV P w K mg base (A.under (.builtin "type.__call__" ⟨.ref C ::us,kw⟩)) outer s H:=⟨by first | exact e.frames | (simpa [Around.under,Code.envs,Code.isFrame,pushEnvs] using e.frames),e.mod,e.bs,e.bsz,e.oT,e.frf,e.hok,e.bare⟩
section
variable {X:Cx} {pins:List (Addr × Obj)} {σ:St} {H:Hp} {s s':Shared}
theorem Inv.Hn(I:Inv X pins σ H s):vV X.prog X.w X.K X.mg X.base X.A X.stack s H:=
 ⟨I.ok.frames,I.ok.mod,I.bs,Nat.le_trans I.ok.bsz I.sz,I.stack,I.xy,I.hok,I.bare⟩
theorem Inv.after{Q:VK}{u:Value}(I:Inv X pins σ H s)(h:CE X.stack X.prog X.w H s Q u s'):EP X pins σ Q u s':=by
 obtain⟨v,H',os,bare,un,hok,r,q⟩:=h
 obtain⟨hh,g,d,t,os'⟩:=s'
 obtain rfl:os'=s.os:=os
 exact⟨v,H',I.call (h':=hh) (g':=g) (d':=d) (t':=t) (ch:=[]) un hok bare (fun b z=>absurd z (by simp)),r,q⟩
end
noncomputable def HW(sp:Sp)(dvs:List V)(E:XK)(t:TA):TE:=fun σ H Q=>t σ H fun vs H1=>sp (vs++dvs) H1 Q E
noncomputable def GO(C:Addr)(m:Str)(sp:Sp)(dvs:List V)(E:XK)(ta:TE)(t:TA):TE:=fun σ H Q=>ta σ H fun x H1=>∃a dx fs,x= .ref a∧H1 a=some (.ins C dx fs)∧fs.lookup m=none∧
 t σ H1 fun vs H2=>sp (x ::(vs++dvs)) H2 Q E
noncomputable def Ht(C:Addr)(sp:Sp)(dvs:List V)(E:XK)(t:TA):TE:=fun σ H Q=>t σ H fun vs H1=>∀x dx,H1 x=none→H1 dx=none→dx≠x→
 sp (.ref x ::(vs++dvs)) (upd (upd H1 dx (.own x)) x (.ins C dx [])) (fun v H2=>v= .dk∧Q (.ref x) H2) E
noncomputable def Binds(K:PySem.W.Frag)(fd:FuncData)(ps:List Str)(ds:List Value):Prop:=
 ∀(s:Shared) (us:List Value),K.In s.heap→(us++ds).length=ps.length→BindsTo s fd ⟨us,[]⟩ (ps.zip (us++ds))
theorem Binds.all{K:PySem.W.Frag}{fd:FuncData}{ps:List Str}(h:∀us:List Value,us.length=ps.length→bindArgs fd ⟨us,[]⟩=pure (ps.zip us)):Binds K fd ps []:=fun s us _ hl=>by
 rw[List.append_nil] at hl ⊢
 exact .of_eq (h us hl)
noncomputable def Passes(CX:AW)(X:Cx)(E:XK):Prop:=∀(pins:List (Addr × Obj)) (σ:St) (H:Hp) (s:Shared) (e:Value) (s':Shared),Inv X pins σ H s→CX X.stack H s E e s'→X.xe e s'
section
variable {X:Cx} {CX:AW} {k:Nat} {f C:Addr} {fd:FuncData} {ps:List Str} {sp:Sp} {dvs:List V} {ds:List Value} {E:XK} {x m:Str} {p pos apos:Pos} {e o:Expr} {es:List Expr} {ta:TE} {t:TA}
theorem A2{pins:List (Addr × Obj)}{σ:St}{H:Hp}{s:Shared}{Q:VK}{us:List Value}{vs:List V}(F:hJ X.prog X.w X.K X.mg X.base CX k f fd ps sp)(hr:eI k X.A)(hb:Binds X.K fd ps ds)(hd:Vals dvs ds)(hx:Passes CX X E)
 (I:Inv X pins σ H s) (r:Vals vs us) (h:sp (vs++dvs) H Q E):wpAny (model X.prog X.w) X.A (call (.ref f) us) (EP X pins σ Q) X.xe s:=by
 have r2:Vals (vs++dvs) (us++ds):=r.append hd
 have hl:(us++ds).length=ps.length:=by rw[←r2.length];exact F.len _ _ _ _ h
 refine wpAny_call (codeAny_mono (F.run X.A X.stack s H ⟨us,[]⟩ (us++ds) (vs++dvs) Q E hr I.Hn (hb s us I.xA hl) r2 h) fun r s' hq=>?_)
 cases r with
 | error e=>exact hx pins σ H s e s' I hq
 | ok fl=>
   cases fl with
   | ret u=>exact I.after hq
   | next=>exact False.elim hq
   | brk=>exact False.elim hq
   | cont=>exact False.elim hq
theorem su(F:hJ X.prog X.w X.K X.mg X.base CX k f fd ps sp)(hr:eI k X.A)(hg:Gl X x)(hm:X.mg x=some (.ref f))(hk:PySem.W.keepIn X.K (.ref f)=true)(hb:Binds X.K fd ps ds)(hd:Vals dvs ds)(hx:Passes CX X E)
 (ha:PA X (e ::es) t) (hdb:(x==("__debug__":Str))=false:=by decide) (he:starEach (e ::es) X.env=(false,eval e X.env) ::starEach es X.env:=by rfl) (hpl:(backTo pos (starEach es X.env)).any (·.1)=false:=by rfl) :
 PE X (.Call (.Name x p) (e ::es) [] pos) (HW sp dvs E t):=by
 intro pins s σ H Q I h
 refine wpAny_Call_Name_kw (xv I hg hm ?_ hdb)
 refine PySem.W.callWith_K (h₀:=X.base) I.ok.mod.kin hk (d5 (ha pos pins s σ H _ I h) fun us s1 ⟨vs,H1,I1,r,q⟩=>⟨I1.xA,?_⟩) he hpl
 exact A2 F hr hb hd hx I1 r q
theorem Dq{pl:Sem Bool}(he:PE X o ta)(c:tH X.K C)(hm:Meth X.K C m f)(F:hJ X.prog X.w X.K X.mg X.base CX k f fd ps sp)(hr:eI k X.A)(hb:Binds X.K fd ps ds)(hd:Vals dvs ds)(hx:Passes CX X E)(ha:PA X (e ::es) t)
 (hst:starEach (e ::es) X.env=(false,eval e X.env) ::starEach es X.env:=by rfl) (hpl:(backTo pos (starEach es X.env)).any (·.1)=false:=by rfl)
 (ht:eval (.Call (.Attribute o m apos) (e ::es) [] pos) X.env=(do
   let ov ←eval o X.env
   standAt apos.atName
   let(f,first) ←holding [ov] (getMethod ov m pl)
   callWith pos f first (backTo pos (starEach (e ::es) X.env)) (backToKw pos (keywordEach [] X.env))):=by rfl) :
 PE X (.Call (.Attribute o m apos) (e ::es) [] pos) (GO C m sp dvs E ta t):=by
 intro pins s σ H Q I h
 refine PySem.W.methodCall_KW (pl:=pl) (d5 (he pins s σ H _ I h) fun u s1 ⟨x,H1,I1,rx,a,dx,fs,ex,ea,l,q⟩=>?_) ht
 subst ex
 obtain rfl:u=Value.ref a:=rx
 refine wC I1 ea c hm l ?_
 refine PySem.W.callWith_K (first:=[.ref a]) (h₀:=X.base) I.ok.mod.kin hm.kp (d5 (ha pos pins s1 σ H1 _ I1 q) fun us s2 ⟨vs,H2,I2,r,q2⟩=>⟨I2.xA,?_⟩) hst hpl
 exact A2 (us:= .ref a ::us) (vs:= .ref a ::vs) F hr hb hd hx I2 (.cons rfl r) q2
structure Mk (K:PySem.W.Frag) (C f:Addr):Prop where
 makes:PySem.W.makesIn K C=true
 init:PySem.W.findIn K (.ref C) "__init__"=some (some (.ref f))
 fn:PySem.W.isFn K (.ref f)=true
 kp:PySem.W.keepIn K (.ref C)=true
theorem Az{pins:List (Addr × Obj)}{σ:St}{H:Hp}{s:Shared}{Q:VK}{us:List Value}{vs:List V}(M:Mk X.K C f)(F:hJ X.prog X.w X.K X.mg X.base CX k f fd ps sp)(hr:eI (k+1) X.A)(hb:Binds X.K fd ps ds)(hd:Vals dvs ds)
 (hx:Passes CX X E) (I:Inv X pins σ H s) (r:Vals vs us)
 (h:∀x dx,H x=none→H dx=none→dx≠x→sp (.ref x ::(vs++dvs)) (upd (upd H dx (.own x)) x (.ins C dx [])) (fun v H2=>v= .dk∧Q (.ref x) H2) E) :
 wpAny (model X.prog X.w) X.A (call (.ref C) us) (EP X pins σ Q) X.xe s:=by
 have hq:=h (s.heap.objs.size+1) s.heap.objs.size (I.hok.fresh (Nat.le_succ _)) (I.hok.fresh (Nat.le_refl _)) (Nat.ne_of_lt (Nat.lt_succ_self _))
 have I2:=Inv.made (C:=C) I
 have r2:Vals (V.ref (s.heap.objs.size+1) ::(vs++dvs)) (Value.ref (s.heap.objs.size+1) ::(us++ds)):= .cons rfl (r.append hd)
 have hl:(Value.ref (s.heap.objs.size+1) ::us++ds).length=ps.length:=by
  have e:=r2.length
  rw[F.len _ _ _ _ hq] at e
  exact e.symm
 refine wpAny_call (zQ (f:=f) I.xA M.makes M.init (beq_iff_eq.mp M.fn) (codeAny_mono (F.run _ X.stack _ _ ⟨Value.ref (s.heap.objs.size+1) ::us,[]⟩ (Value.ref (s.heap.objs.size+1) ::(us++ds)) _ _ E (hr.make C us [])
  (I2.Hn.make C us []) (hb _ (Value.ref (s.heap.objs.size+1) ::us) I2.xA hl) r2 hq) fun r s' hq'=>?_))
 cases r with
 | error e=>exact hx pins σ _ _ e s' I2 hq'
 | ok fl=>
   cases fl with
   | ret u=>
     obtain⟨v,H',I3,rv,ev,q3⟩:=I2.after hq'
     subst ev
     exact⟨rv,⟨V.ref (s.heap.objs.size+1),H',I3,rfl,q3⟩⟩
   | next=>exact False.elim hq'
   | brk=>exact False.elim hq'
   | cont=>exact False.elim hq'
theorem B5(M:Mk X.K C f)(F:hJ X.prog X.w X.K X.mg X.base CX k f fd ps sp)(hr:eI (k+1) X.A)(hg:Gl X x)(hm:X.mg x=some (.ref C))(hb:Binds X.K fd ps ds)(hd:Vals dvs ds)(hx:Passes CX X E)
 (ha:PA X (e ::es) t) (hdb:(x==("__debug__":Str))=false:=by decide) (he:starEach (e ::es) X.env=(false,eval e X.env) ::starEach es X.env:=by rfl) (hpl:(backTo pos (starEach es X.env)).any (·.1)=false:=by rfl) :
 PE X (.Call (.Name x p) (e ::es) [] pos) (Ht C sp dvs E t):=by
 intro pins s σ H Q I h
 refine wpAny_Call_Name_kw (xv I hg hm ?_ hdb)
 refine PySem.W.callWith_K (h₀:=X.base) I.ok.mod.kin M.kp (d5 (ha pos pins s σ H _ I h) fun us s1 ⟨vs,H1,I1,r,q⟩=>⟨I1.xA,?_⟩) he hpl
 exact Az M F hr hb hd hx I1 r q
end
noncomputable def PK(X:Cx)(kws:List Keyword)(t:TA):Prop:=
 ∀(pos:Pos) (pins:List (Addr × Obj)) (s:Shared) (σ:St) (H:Hp) (Q:List V→Hp→Prop),Inv X pins σ H s→t σ H Q→wpAny (model X.prog X.w) X.A (evalAll ((backToKw pos (keywordEach kws X.env)).map (·.2))) (AP X pins σ Q) X.xe s
section
variable {X:Cx} {CX:AW} {k:Nat} {f C:Addr} {fd:FuncData} {ps ks:List Str} {sp:Sp} {E:XK} {x m:Str} {p pos apos kpos:Pos} {e o:Expr} {es:List Expr} {kws:List Keyword} {te ta:TE} {t tk:TA} {nm:Option Str}
structure IC (K:PySem.W.Frag) (fd:FuncData) (ps ks:List Str) (g:List Value→List Value→List Value) (gV:List V→List V→List V):Prop where
 to:∀(s:Shared) (us ws:List Value),K.In s.heap→(g us ws).length=ps.length→BindsTo s fd ⟨us,ks.zip ws⟩ (ps.zip (g us ws))
 rel:∀{vs:List V} {us:List Value} {zs:List V} {ws:List Value},Vals vs us→Vals zs ws→Vals (gV vs zs) (g us ws)
noncomputable def I0(sp:Sp)(gV:List V→List V→List V)(E:XK)(t tk:TA):TE:=fun σ H Q=>t σ H fun vs H1=>tk σ H1 fun zs H2=>sp (gV vs zs) H2 Q E
variable {g:List Value→List Value→List Value} {gV:List V→List V→List V}
end
structure aY (N P:List Str) (sc:Scope):Prop where
 kind:sc.kind= .function
 co:sc.isCoroutine=false
 gen:sc.isGenerator=false
 nd:N.Nodup
 pre:N.take P.length=P
 par:∀x∈P,sc.names.lookup x=some .local∨sc.names.lookup x=some .cell
 nofree:∀y∈sc.names,y.2≠ .free
theorem rN{kindOf:Str→Option NameKind}{x:Str}:∀{binds:List (Str × Value)} {m:Str→Option Value},(∀v,(x,v) ∉ binds)→bindL kindOf binds m x=m x
 | [],_,_=>rfl
 | (n,v) ::r,m,h=>by
   unfold bindL
   rw[rN fun w hw=>h w (List.mem_cons_of_mem _ hw)]
   split
   ·have:x≠n:=by rintro rfl;exact h v List.mem_cons_self
    simp [this]
   ·rfl
theorem q_{kindOf:Str→Option NameKind}{x:Str}:∀{binds:List (Str × Value)} {m:Str→Option Value},(∀v,(x,v) ∉ binds)→bindC kindOf binds m x=m x
 | [],_,_=>rfl
 | (n,v) ::r,m,h=>by
   unfold bindC
   rw[q_ fun w hw=>h w (List.mem_cons_of_mem _ hw)]
   split
   ·rfl
   ·have:x≠n:=by rintro rfl;exact h v List.mem_cons_self
    simp [this]
theorem rO{kindOf:Str→Option NameKind}{x:Str}{v:Value}:∀{P:List Str} {vs:List Value} {i:Nat} {m:Str→Option Value},P.Nodup→P[i]? =some x→vs[i]? =some v→kindOf x=some .local→
 bindL kindOf (P.zip vs) m x=some v
 | [],_,_,_,_,h,_,_=>by simp at h
 | _ ::_,[],_,_,_,_,h,_=>by simp at h
 | p ::P,w ::vs,0,m,nd,h1,h2,hk=>by
   simp at h1 h2;subst h1;subst h2
   show bindL kindOf ((p,w) ::P.zip vs) m p=_
   unfold bindL
   rw[rN fun v hv=>(List.nodup_cons.mp nd).1 (List.of_mem_zip hv).1,if_pos hk]
   simp
 | p ::P,w ::vs,i+1,m,nd,h1,h2,hk=>by
   show bindL kindOf ((p,w) ::P.zip vs) m x=_
   unfold bindL
   exact rO (i:=i) (List.nodup_cons.mp nd).2 (by simpa using h1) (by simpa using h2) hk
theorem qT{kindOf:Str→Option NameKind}{x:Str}{v:Value}:∀{P:List Str} {vs:List Value} {i:Nat} {m:Str→Option Value},P.Nodup→P[i]? =some x→vs[i]? =some v→kindOf x≠some .local→
 bindC kindOf (P.zip vs) m x=some v
 | [],_,_,_,_,h,_,_=>by simp at h
 | _ ::_,[],_,_,_,_,h,_=>by simp at h
 | p ::P,w ::vs,0,m,nd,h1,h2,hk=>by
   simp at h1 h2;subst h1;subst h2
   show bindC kindOf ((p,w) ::P.zip vs) m p=_
   unfold bindC
   rw[q_ fun v hv=>(List.nodup_cons.mp nd).1 (List.of_mem_zip hv).1,if_neg hk]
   simp
 | p ::P,w ::vs,i+1,m,nd,h1,h2,hk=>by
   show bindC kindOf ((p,w) ::P.zip vs) m x=_
   unfold bindC
   exact qT (i:=i) (List.nodup_cons.mp nd).2 (by simpa using h1) (by simpa using h2) hk
noncomputable def start(N:List Str)(vs:List V):St:=vs.map some++List.replicate (N.length - vs.length) none
noncomputable def qg(CX:AW)(P:Program)(w:World)(K:PySem.W.Frag)(mg:Str→Option Value)(base:Heap)(N:List Str)(qual:Str)(scope:Scope)(f:Addr)(cd:Value)(A:Around)(outer:List Env)(s:Shared)(H:Hp)(E:XK):Cx where
 prog:=P
 w:=w
 K:=K
 mg:=mg
 base:=base
 A:=A.deeper (envOfC qual scope s.heap.objs.size f cd)
 N:=N
 s₀:=s
 H₀:=H
 env:=envOfC qual scope s.heap.objs.size f cd
 outer:=outer
 stack:=envOfC qual scope s.heap.objs.size f cd ::outer
 ex:=[]
 calm:=true
 fn:=fun _=>true
 pn:=[]
 xe:=fun e s'=>wpAny (model P w) (A.deeper (envOfC qual scope s.heap.objs.size f cd)) (leaving (envOfC qual scope s.heap.objs.size f cd) e) (fun _ s''=>CX outer H s E e s'') (fun e' s''=>CX outer H s E e' s'') s'
theorem qx{sc:Scope}{n:Nat}{x:Str}(h:sc.names.lookup x=some .cell):∃c,(cellsFrom n sc.names []).lookup x=some c:=by
 have q:=PySem.W.cellsFrom_some sc.names n [] (.inl h)
 exact Option.isSome_iff_exists.mp q
theorem zg{CX:AW}{P:Program}{w:World}{K:PySem.W.Frag}{mg:Str→Option Value}{base:Heap}{N ps:List Str}{qual:Str}{scope:Scope}{f:Addr}{cd:Value}{A:Around}{outer:List Env}{s s1:Shared}{H:Hp}{E:XK}{us:List Value}{vs:List V}
 (S:aY N ps scope) (hd:A.handled=none) (e0:vV P w K mg base A outer s H) (hl:vs.length=ps.length) (r:Vals vs us)
 (x:InCallC s s.heap.objs.size (bindL (envOfC qual scope s.heap.objs.size f cd).kindOf (ps.zip us) fun _=>none) (cellsFrom (s.heap.objs.size+1) scope.names []) (bindC (envOfC qual scope s.heap.objs.size f cd).kindOf (ps.zip us) fun _=>none) s1) :
 Inv (qg CX P w K mg base N qual scope f cd A outer s H E) [] (start N vs) H s1:=by
 have hpl:ps.length≤N.length:=by have:=congrArg List.length S.pre;rw [List.length_take] at this;omega
 obtain⟨h1,tk,rfl,hk⟩:=x.done
 have noA:∀b:Addr,b ∉ (qg CX P w K mg base N qual scope f cd A outer s H E).ex:=fun b z=>absurd (show b∈([]:List Addr) from z) (by simp)
 refine⟨⟨e0.mod,S.kind,rfl,rfl,Nat.le_refl _,fun y z c h1 h2=>?_,fun y hy=>?_,fun y c _ h=>?_,fun _=>hd,Around.frames_deeper e0.frames, .inr ⟨rfl,rfl⟩,fun b z=>absurd z (noA b),e0.bs,e0.bsz,fun b _ _=>noA b,fun b z=>absurd z (noA b),e0.oT,e0.frf⟩,
  rfl,e0.bare,Un.kept hk,⟨_,x.toInCall.ns,fun i y v h1 h2 h3=>?_⟩,fun y c h=>⟨_,x.cell y c h⟩,e0.hok.fresh (Nat.le_refl _),fun y c h=>?_,fun p hp=>absurd (show p∈([]:List (Addr × Obj)) from hp) (by simp),e0.hok.kept hk,?_⟩
 ·exact name_of_addr x.apart (PySem.mem_of_lookup h1) (PySem.mem_of_lookup h2)
 ·have hy:scope.names.lookup y=some .cell∨scope.names.lookup y=some .free:=hy
  rcases hy with hy | hy
  ·exact qx hy
  ·exact absurd rfl (S.nofree _ (PySem.mem_of_lookup hy))
 ·exact Nat.le_of_lt (x.above y c (PySem.mem_of_lookup h))
 ·have hi:i < vs.length:=by
   unfold start at h2
   by_cases hi:i < vs.length
   ·exact hi
   ·rw[List.getElem?_append_right (by simpa using hi)] at h2
    rw[List.getElem?_replicate] at h2
    split at h2 <;> cases h2
  have ha:vs[i]? =some v:=by
   unfold start at h2
   rw[List.getElem?_append_left (by simpa using hi),List.getElem?_map] at h2
   cases e:vs[i]? with
   | none=>rw [e] at h2;cases h2
   | some a=>rw [e] at h2;cases h2;rfl
  obtain⟨u,hu,rv⟩:=r.get ha
  have hp:ps[i]? =some y:=by
   rw[←S.pre,List.getElem?_take_of_lt (by omega)];exact h1
  have ndP:ps.Nodup:=by rw[←S.pre];exact S.nd.sublist (List.take_sublist _ _)
  refine⟨u,rv,?_⟩
  rcases S.par y (List.mem_of_getElem? hp) with k | k
  ·exact .inl ⟨k,rO ndP hp hu k⟩
  ·obtain⟨c,e⟩:=qx (n:=s.heap.objs.size+1) k
   refine .inr ⟨.inl k,c,e,?_⟩
   have q:=x.cell y c e
   rw[qT ndP hp hu (by show scope.names.lookup y≠_;rw [k];decide)] at q
   exact q
 ·exact e0.hok.fresh (Nat.le_of_lt (x.above y c (PySem.mem_of_lookup h)))
 ·unfold start
  show _=N.length
  rw[List.length_append,List.length_map,List.length_replicate]
  omega
theorem G8{CX:AW}{P:Program}{w:World}{K:PySem.W.Frag}{mg:Str→Option Value}{base:Heap}{k:Nat}{f:Addr}{name qual:Str}{params:Arguments}{body:List Stmt}{scope:Scope}{dV kV doc pm cdv ct oc:Value}{an od:Option Addr}
 {osl:Array (Option Value)} {N ps:List Str} {sp:Sp} (lk:K.lookup f=some ⟨oc,od, .func (PySem.W.fnOf name qual params body scope dV kV doc pm an cdv ct),osl⟩) (hcd:PySem.W.codeIn K cdv qual=true) (S:aY N ps scope)
 (len:∀vs H Q E,sp vs H Q E→vs.length=ps.length)
 (hbody:∀(A:Around) (outer:List Env) (s:Shared) (H:Hp) (vs:List V) (Q:VK) (E:XK),eI k (A.deeper (envOfC qual scope s.heap.objs.size f cdv))→sp vs H Q E→
   ∃t,sE (qg CX P w K mg base N qual scope f cdv A outer s H E) body t∧t {nx:=fun _ H'=>Q .dk H',rt:=Q} (start N vs) H) :
 hJ P w K mg base CX (k+1) f (PySem.W.fnOf name qual params body scope dV kV doc pm an cdv ct) ps sp:=by
 refine⟨len,fun A outer s H args us vs Q E hr e0 hb r hsp=>?_⟩
 have hl:=len _ _ _ _ hsp
 have KX:K.In s.heap:=e0.mod.kin.keeps fun b o e=>(e0.bs b o e).1
 have lim:s.heap.NoLimit:=e0.mod.nolimit.keeps fun b o e=>(e0.bs b o e).1
 have hkind:∀y∈ps.zip us,scope.names.lookup y.1=some .local∨(scope.names.lookup y.1=some .cell∧((cellsFrom (s.heap.objs.size+1) scope.names []).lookup y.1).isSome=true):=fun⟨n,v⟩ hy=>by
  rcases S.par n (List.of_mem_zip hy).1 with q | q
  ·exact .inl q
  ·exact .inr ⟨q,PySem.W.cellsFrom_some _ _ _ (.inl q)⟩
 refine codeAny_call_function hr.depth (KX _ _ lk) rfl S.co S.gen rfl (PySem.W.codeRec_of KX hcd) (hb _ _ _ _ ?_)
 refine wpAny_newFunctionEnv_cells S.kind hkind fun env he s1 x=>?_
 subst he
 refine⟨lim.keeps x.toInCall.keep,codeAny_func ?_⟩
 obtain⟨t,ht,hq⟩:=hbody A outer s H vs Q E (hr.deeper _) hsp
 have I:Inv (qg CX P w K mg base N qual scope f cdv A outer s H E) [] (start N vs) H s1:=zg S hr.hd e0 hl r x
 refine wpAny_mono (ht [] s1 (start N vs) H _ I hq) (fun fl s' hs=>?_) fun e s' hs=>hs
 have fin:∀{σ':St} {H':Hp} {v:V} {u:Value},Inv (qg CX P w K mg base N qual scope f cdv A outer s H E) [] σ' H' s'→RelV v u→Q v H'→CE outer P w H s Q u s':=
  fun {σ' H' v u} J rv q=>⟨v,H',J.os,J.bare,J.base,J.hok,rv,q⟩
 cases fl with
 | ret u=>
   obtain⟨v,σ',H',J,rv,q⟩:=hs
   exact fin J rv q
 | next=>
   obtain⟨σ',H',J,q⟩:=hs
   exact fin (v:=V.dk) (u:=Value.none) J rfl q
 | brk=>
   obtain⟨_,_,_,q⟩:=hs
   exact False.elim q
 | cont=>
   obtain⟨_,_,_,q⟩:=hs
   exact False.elim q
end L2
namespace L2
open PySem PySem.Spec PyProof.Rows
section
variable {X:Cx} {x:Str} {p pos:Pos} {e:Expr} {es:List Expr} {t:TA} {id T:String} {r:List V→Hp→VK→Prop}
noncomputable def Kt(r:List V→Hp→VK→Prop)(t:TA):TE:=fun σ H Q=>t σ H fun vs H1=>r vs H1 Q
theorem Ba(hc:kq X (.builtin id) r)(hg:Gl X x)(hm:X.mg x=none)(hv:bootBuiltins x=some (.builtin id))(ha:PA X (e ::es) t)(hn:x≠"__name__":=by decide)(hdb:(x==("__debug__":Str))=false:=by decide)
 (he:starEach (e ::es) X.env=(false,eval e X.env) ::starEach es X.env:=by rfl) (hpl:(backTo pos (starEach es X.env)).any (·.1)=false:=by rfl):PE X (.Call (.Name x p) (e ::es) [] pos) (Kt r t):=by
 intro pins s σ H Q I h
 refine wpAny_Call_Name_kw (j0 I hg hm hv ?_ hn hdb)
 exact PyProof.Rows.callWith_builtin1 (d5 (ha pos pins s σ H _ I h) fun us s1 ⟨vs,H1,I1,r1,q1⟩=>hc pins s1 σ H1 vs us Q I1 r1 q1) he hpl
theorem yu(hc:kq X (.type T) r)(hg:Gl X x)(hm:X.mg x=none)(hv:bootBuiltins x=some (.type T))(ha:PA X (e ::es) t)(hn:x≠"__name__":=by decide)(hdb:(x==("__debug__":Str))=false:=by decide)
 (he:starEach (e ::es) X.env=(false,eval e X.env) ::starEach es X.env:=by rfl) (hpl:(backTo pos (starEach es X.env)).any (·.1)=false:=by rfl):PE X (.Call (.Name x p) (e ::es) [] pos) (Kt r t):=by
 intro pins s σ H Q I h
 refine wpAny_Call_Name_kw (j0 I hg hm hv ?_ hn hdb)
 exact PyProof.Rows.callWith_type1 (d5 (ha pos pins s σ H _ I h) fun us s1 ⟨vs,H1,I1,r1,q1⟩=>hc pins s1 σ H1 vs us Q I1 r1 q1) he hpl
end
end L2
namespace L2
open PySem PySem.Spec PyProof.Rows
section
variable {κ:Type} [DecidableEq κ]
noncomputable def kG(kvs:List (κ × V))(k:κ):Option V:=(kvs.find? fun kv=>decide (kv.1=k)).map (·.2)
noncomputable def putK(kvs:List (κ × V))(k:κ)(v:V):List (κ × V):=
 if(kvs.any fun kv=>decide (kv.1=k))=true then kvs.map (fun kv=>if kv.1=k then(kv.1,v) else kv) else kvs++[(k,v)]
noncomputable def Av(kvs:List (κ × V))(k:κ):List (κ × V):=kvs.filter fun kv=>decide (kv.1≠k)
theorem vd{p:κ × V}{r:List (κ × V)}{k:κ}(e:p.1=k):kG (p ::r) k=some p.2:=by simp [kG,List.find?_cons,e]
theorem uX{p:κ × V}{r:List (κ × V)}{k:κ}(e:¬p.1=k):kG (p ::r) k=kG r k:=by simp [kG,List.find?_cons,e]
theorem tK(kvs:List (κ × V))(k:κ)(v:V):(putK kvs k v).length≤kvs.length+1:=by
 unfold putK
 split
 ·rw[List.length_map];omega
 ·rw[List.length_append,List.length_cons,List.length_nil];omega
theorem mJ.getD{o:Option V}{u:Option Value}{d:V}{d':Value}(r:mJ o u)(rd:RelV d d'):RelV (o.getD d) (u.getD d'):=by
 cases o with
 | none=>cases u with
   | none=>exact rd
   | some _=>exact(show False from r).elim
 | some _=>cases u with
   | none=>exact(show False from r).elim
   | some _=>exact r
theorem KV.val{kvs:List (κ × V)}{vs:List (κ × Value)}(r:KV kvs vs)(k:κ):mJ (kG kvs k) (valueAt vs k):=by
 unfold KV at r
 induction r with
 | nil=>exact True.intro
 | @cons p q ps qs h t ih=>
   obtain⟨h1,h2⟩:=h
   by_cases e:p.1=k
   ·have e':q.1=k:=h1.symm.trans e
    have b:valueAt (q ::qs) k=some q.2:=by simp [valueAt,List.find?_cons,e']
    rw[vd e,b];exact h2
   ·have e':¬q.1=k:=fun z=>e (h1.trans z)
    have b:valueAt (q ::qs) k=valueAt qs k:=by simp [valueAt,List.find?_cons,e']
    rw[uX e,b];exact ih
theorem KV.any{kvs:List (κ × V)}{vs:List (κ × Value)}(r:KV kvs vs)(k:κ):(kvs.any fun kv=>decide (kv.1=k))=vs.any fun kv=>decide (kv.1=k):=by
 unfold KV at r
 induction r with
 | nil=>rfl
 | cons h t ih=>rw [List.any_cons,List.any_cons,ih,h.1]
theorem KV.Ju{kvs:List (κ × V)}{vs:List (κ × Value)}(r:KV kvs vs)(k:κ){y:V}{u:Value}(ry:RelV y u) :
 KV (kvs.map fun kv=>if kv.1=k then(kv.1,y) else kv) (vs.map fun kv=>if kv.1=k then(kv.1,u) else kv):=by
 unfold KV at r ⊢
 induction r with
 | nil=>exact .nil
 | @cons p q ps qs h t ih=>
   rw[List.map_cons,List.map_cons]
   refine .cons ?_ ih
   obtain⟨h1,h2⟩:=h
   by_cases e:p.1=k
   ·rw[if_pos e,if_pos (h1.symm.trans e)];exact⟨h1,ry⟩
   ·rw[if_neg e,if_neg (fun z=>e (h1.trans z))];exact⟨h1,h2⟩
theorem KV.put{kvs:List (κ × V)}{vs:List (κ × Value)}(r:KV kvs vs)(k:κ){y:V}{u:Value}(ry:RelV y u):KV (putK kvs k y) (stored vs k u):=by
 unfold putK stored
 rw[r.any k]
 by_cases e:(vs.any fun kv=>decide (kv.1=k))=true
 ·rw[if_pos e,if_pos e];exact r.Ju k ry
 ·rw[if_neg e,if_neg e];exact Paired.snoc r ⟨rfl,ry⟩
end
theorem Bo{P:Program}{w:World}{k:Key}{u:Value}(r:RelV (kV k) u):(dJ P w).is k u=true:=by
 cases k with
 | inl i=>obtain⟨t,e⟩:=(show ∃t,u=Value.int i t from r);subst e;exact uR P w i t
 | inr x=>obtain⟨t,e⟩:=(show ∃t,u=Value.str x t from r);subst e;exact ud P w x t
theorem rT{P:Program}{w:World}:∀{ks:List Key} {us:List Value},Vals (ks.map kV) us→ItemsAre (dJ P w) ks us
 | [],_,r=>by rw[List.map_nil] at r;cases r;exact .nil
 | k ::ks,_,r=>by
   rw[List.map_cons] at r
   cases r with
   | cons h t=>exact .cons (Bo h) (rT t)
noncomputable abbrev KT(H:Hp):List (List Key × V)→List (List Key × Addr × Value)→Prop:=Paired fun p q=>p.1=q.1∧H q.2.1=some (.tup (p.1.map kV))∧RelV p.2 q.2.2
theorem KT.val{H:Hp}{kvs:List (List Key × V)}{xs:List (List Key × Addr × Value)}(r:KT H kvs xs)(k:List Key):mJ (kG kvs k) ((atKey xs k).map (·.2)):=by
 induction r with
 | nil=>exact True.intro
 | @cons p q ps qs h t ih=>
   obtain⟨h1,_,h2⟩:=h
   by_cases e:p.1=k
   ·have e':q.1=k:=h1.symm.trans e
    have b:atKey (q ::qs) k=some q.2:=by simp [atKey,List.find?_cons,e']
    rw[vd e,b];exact h2
   ·have e':¬q.1=k:=fun z=>e (h1.trans z)
    have b:atKey (q ::qs) k=atKey qs k:=by simp [atKey,List.find?_cons,e']
    rw[uX e,b];exact ih
section
variable {P:Program} {w:World} {H:Hp} {h:Heap} {a:Addr}
theorem D6{u:HO}(ok:lr P w H h)(e:Rd H a u):e_ P w H h a u:=e.ok ok
theorem Aa{kvs:List (Key × V)}(ok:lr P w H h)(e:Rd H a (.dK kvs)):kvs.length≤sizeLine∧(a==sysModules)=false∧∃vs,KV kvs vs∧h.DictOf (dJ P w) a vs:=
 show e_ P w H h a (.dK kvs) from D6 ok e
theorem Hu{kvs:List (Key × V)}(ok:lr P w H h)(e:H a=some (.dK kvs)):kvs.length≤sizeLine∧(a==sysModules)=false∧∃vs,KV kvs vs∧h.DictOf (dJ P w) a vs:=Aa ok (.inl e)
theorem A3{ks:List Key}(ok:lr P w H h)(e:H a=some (.tup (ks.map kV))):(tupleKind (dJ P w)).is h ks a:=by
 obtain⟨_,its,r,o,h1,h2,n,h3⟩:=(show e_ P w H h a (.tup (ks.map kV)) from ok a _ e)
 exact⟨o,its.toArray,n,h1,h2,h3,by simpa using rT r⟩
theorem Ea{kvs:List (List Key × V)}(ok:lr P w H h)(e:Rd H a (.dT kvs)):kvs.length≤sizeLine∧(a==sysModules)=false∧
 ∃xs,KT H kvs xs∧h.DictOfH (tupleKind (dJ P w)) a xs:=by
 obtain⟨z,y,xs,r,o,es,ep,h1,h2,h3,h4,h5⟩:=(show e_ P w H h a (.dT kvs) from D6 ok e)
 refine⟨z,y,xs,r,o,es,ep,h1,h2,h3,h4,fun x hx=>?_,h5⟩
 have all:∀{l:List (List Key × V)} {m:List (List Key × Addr × Value)},KT H l m→∀x∈m,(tupleKind (dJ P w)).is h x.1 x.2.1:=by
  intro l m q
  induction q with
  | nil=>intro x hx;exact nomatch hx
  | @cons p q ps qs hq t ih=>
    intro x hx
    rcases List.mem_cons.mp hx with e | hx
    ·subst e
     exact A3 ok (by rw[←hq.1];exact hq.2.1)
    ·exact ih x hx
 exact all r x hx
end
noncomputable def qB(H:Hp)(a:Addr)(y:V)(r:Option V):Prop:=
 (∃kvs k,Rd H a (.dK kvs)∧y=kV k∧r=kG kvs k)∨∃kvs k b,Rd H a (.dT kvs)∧y= .ref b∧H b=some (.tup (k.map kV))∧r=kG kvs k
noncomputable def Hz(H:Hp)(a:Addr)(y v:V)(H':Hp):Prop:=
 (∃kvs k,H a=some (.dK kvs)∧y=kV k∧kvs.length < sizeLine∧H'=upd H a (.dK (putK kvs k v)))∨
 ∃kvs k b,H a=some (.dT kvs)∧y= .ref b∧H b=some (.tup (k.map kV))∧kvs.length < sizeLine∧H'=upd H a (.dT (putK kvs k v))
theorem qB.k{H:Hp}{a:Addr}{kvs:List (Key × V)}{k:Key}(e:H a=some (.dK kvs)):qB H a (kV k) (kG kvs k):= .inl ⟨kvs,k, .inl e,rfl,rfl⟩
section
variable {X:Cx} {pins:List (Addr × Obj)} {σ:St} {H:Hp} {s:Shared} {a:Addr} {y v:V} {u r:Value} {o:Option V} {A:Around} {E:Value→Shared→Prop}
theorem Inv.big(I:Inv X pins σ H s):sysModules < s.heap.objs.size:=by
 have h:mainGlobals < s.heap.objs.size:=(I.mod.glob.keeps I.bk).lt
 exact Nat.lt_trans (by decide) h
theorem CA{h':Heap}{t':Nat}{ob:HO}(I:Inv X pins σ H s)(mu:HS (H a))(hs:Heap.SameBut a s.heap h')(he:∃q,h'.get? a=some q)(new:e_ X.prog X.w (upd H a ob) h' a ob) :
 Inv X pins σ (upd H a ob) {s with heap:=h',toks:=t'}:=
 I.write (x:=a) (e:=a) mu (.inl rfl) (fun b q hb z=>(hs.2 b hb).trans z) he new
theorem Ex{P:Program}{w:World}{H':Hp}{h':Heap}{kvs:List (Key × V)}{vs:List (Key × Value)}(z:kvs.length≤sizeLine)(hd:(a==sysModules)=false)(rel:KV kvs vs)(dd:h'.DictOf (dJ P w) a vs) :
 e_ P w H' h' a (.dK kvs):=⟨z,hd,vs,rel,dd⟩
end
section
variable {X:Cx} {pins:List (Addr × Obj)} {σ:St} {H:Hp} {s:Shared} {a:Addr} {kvs:List (Key × V)} {k:Key} {u:Value} {A:Around} {E:Value→Shared→Prop}
end
noncomputable def K1(i:Expr):Prop:=∀ov iv,subscripted i false ov iv=operate [ov,iv] (getItem ov iv)
noncomputable def Kf(td ty:TE):TE:=fun σ H Q=>td σ H fun x H1=>ty σ H1 fun y H2=>∃a v,x= .ref a∧qB H2 a y (some v)∧Q v H2
noncomputable def Lk(ty td:TE):TE:=fun σ H Q=>ty σ H fun y H1=>td σ H1 fun x H2=>∃a o,x= .ref a∧qB H2 a y o∧Q (.bl o.isSome) H2
noncomputable def Ib(ty td:TE):TE:=fun σ H Q=>ty σ H fun y H1=>td σ H1 fun x H2=>∃a o,x= .ref a∧qB H2 a y o∧Q (.bl (!o.isSome)) H2
noncomputable def J3(td ty tv:TE):TS:=fun D σ H=>tv σ H fun v H1=>td σ H1 fun x H2=>ty σ H2 fun y H3=>∃a H4,x= .ref a∧Hz H3 a y v H4∧D.nx σ H4
noncomputable def J2(td ty tv:TE)(rd:V→V→Hp→VK→Prop):TS:=fun D σ H=>td σ H fun x H1=>ty σ H1 fun y H2=>∃a v,x= .ref a∧qB H2 a y (some v)∧
 tv σ H2 fun y2 H3=>rd v y2 H3 fun z H4=>∃H5,Hz H4 a y z H5∧D.nx σ H5
noncomputable def JT(td ty:TE):TS:=fun D σ H=>td σ H fun x H1=>ty σ H1 fun y H2=>∃a kvs k,x= .ref a∧H2 a=some (.dK kvs)∧y=kV k∧(kG kvs k).isSome=true∧D.nx σ (upd H2 a (.dK (Av kvs k)))
section
variable {X:Cx} {o i e value:Expr} {pos pos' tpos:Pos} {td ty tv:TE}
end
theorem zY{P:Program}{w:World}{H:Hp}(h:Heap)(hb:sysModules < h.objs.size):e_ P w H (h.push {cls:= .type "dict",data:= .dict #[]}) h.objs.size (.dK []):=
 ⟨Nat.zero_le _,beq_eq_false_iff_ne.mpr (Ne.symm (Nat.ne_of_lt hb)),[], .nil,Heap.DictOf.new h⟩
noncomputable def IK:TE:=fun _ H Q=>∀p,H p=none→Q (.ref p) (upd H p (.dK []))
noncomputable def Ji:TE:=fun _ H Q=>∀p,H p=none→Q (.ref p) (upd H p (.dT []))
section
variable {X:Cx} {pos:Pos}
end
noncomputable def nQ:List (TE × TE)→St→Hp→(List (V × V)→Hp→Prop)→Prop
 | [],_,H,Q=>Q [] H
 | (tk,tv) ::r,σ,H,Q=>tk σ H fun x H1=>tv σ H1 fun y H2=>nQ r σ H2 fun ps H3=>Q ((x,y) ::ps) H3
noncomputable abbrev VV:List (V × V)→List (Value × Value)→Prop:=Paired fun p q=>RelV p.1 q.1∧RelV p.2 q.2
noncomputable def Fm(X:Cx)(pos:Pos)(keys:List (Option Expr))(values:List Expr)(trs:List (TE × TE)):Prop:=
 ∀(pins:List (Addr × Obj)) (s:Shared) (σ:St) (H:Hp) (Q:List (V × V)→Hp→Prop),Inv X pins σ H s→nQ trs σ H Q→
  wpAny (model X.prog X.w) X.A (evalPairs (pairTrees keys values X.env pos)) (fun vs s'=>∃ps H',Inv X pins σ H' s'∧VV ps vs∧Q ps H') X.xe s
theorem xx{X:Cx}{pos:Pos}:Fm X pos [] [] []:=fun pins s σ H Q I h=>pairTrees_nil_walk ⟨[],H,I, .nil,h⟩
theorem mv{X:Cx}{pos:Pos}{k v:Expr}{ks:List (Option Expr)}{vs:List Expr}{tk tv:TE}{trs:List (TE × TE)}(hk:PE X k tk)(hv:PE X v tv)(hr:Fm X pos ks vs trs) :
 Fm X pos (some k ::ks) (v ::vs) ((tk,tv) ::trs):=fun pins s σ H Q I h=>
 pairTrees_cons_walk (d5 (hk pins s σ H _ I h) fun u s1 ⟨x,H1,I1,rx,q1⟩=>d5 (hv pins s1 σ H1 _ I1 q1) fun w2 s2 ⟨y,H2,I2,ry,q2⟩=>
  d5 (hr pins s2 σ H2 _ I2 q2) fun ws s3 ⟨ps,H3,I3,rel,q3⟩=>⟨(x,y) ::ps,H3,I3, .cons ⟨rx,ry⟩ rel,q3⟩)
noncomputable def i_(kvs more:List (Key × V)):List (Key × V):=more.foldl (fun acc kv=>putK acc kv.1 kv.2) kvs
theorem KV.merge:∀{more:List (Key × V)} {rs:List (Key × Value)} {kvs:List (Key × V)} {vs:List (Key × Value)},KV more rs→KV kvs vs→KV (i_ kvs more) (merged vs rs):=by
 intro more rs kvs vs r
 unfold KV at r
 induction r generalizing kvs vs with
 | nil=>intro q;exact q
 | @cons p q ps qs h t ih=>
   intro r0
   have e:KV (putK kvs p.1 p.2) (stored vs q.1 q.2):=by
    have:=r0.put p.1 h.2
    rw[←h.1];exact this
   exact ih e
theorem lu:∀(more kvs:List (Key × V)),(i_ kvs more).length≤kvs.length+more.length
 | [],kvs=>by show kvs.length≤kvs.length+0;omega
 | p ::r,kvs=>by
   have h1:=lu r (putK kvs p.1 p.2)
   have h2:=tK kvs p.1 p.2
   show(i_ (putK kvs p.1 p.2) r).length≤_
   rw[List.length_cons];omega
theorem pT{P:Program}{w:World}:∀{kvs:List (Key × V)} {ws:List (Value × Value)},VV (kvs.map fun kv=>(kV kv.1,kv.2)) ws→∃rs,Carries (dJ P w) ws rs∧KV kvs rs
 | [],_,r=>by rw[List.map_nil] at r;cases r;exact⟨[],True.intro, .nil⟩
 | p ::kvs,_,r=>by
   rw[List.map_cons] at r
   cases r with
   | @cons a b as bs h t=>
     obtain⟨rs,c,q⟩:=pT (P:=P) (w:=w) t
     obtain⟨b1,b2⟩:=b
     exact⟨(p.1,b2) ::rs,⟨Bo h.1,rfl,c⟩, .cons ⟨rfl,h.2⟩ q⟩
noncomputable def Br(trs:List (TE × TE)):TE:=fun σ H Q=>∀p,H p=none→nQ trs σ (upd H p (.dK [])) fun ps H2=>H2 p=some (.dK [])∧∃kvs:List (Key × V),ps=kvs.map (fun kv=>(kV kv.1,kv.2))∧kvs.length≤15∧Q (.ref p) (upd H2 p (.dK (i_ [] kvs)))
theorem Dj{X:Cx}{pos:Pos}{keys:List (Option Expr)}{values:List Expr}{trs:List (TE × TE)}(h:Fm X pos keys values trs)(hall:keys.all (·.isSome)=true)(hl:keys.length=values.length)(h0:keys≠[])
 (h15:keys.length≤15):PE X (.Dict keys values pos) (Br trs):=by
 intro pins s σ H Q I q
 have hn:=I.hok.fresh (Nat.le_refl s.heap.objs.size)
 have I1:=I.laid (a:=s.heap.objs.size) (o:= .dK []) (h':=s.heap.push {cls:= .type "dict",data:= .dict #[]}) (t':=s.toks) (fun _ _ q=>Heap.get?_push_of_some _ q) (Nat.le_refl _) (zY s.heap I.big)
 refine wpAny_Dict_walk (knd:=dJ X.prog X.w) hall hl h0 h15 (d5 (h pins _ σ _ _ I1 (q _ hn)) fun ws s2 ⟨ps,H2,I2,rel,e,kvs,ep,lk,q2⟩=>?_)
 subst ep
 obtain⟨rs,c,rk⟩:=pT (P:=X.prog) (w:=X.w) rel
 obtain⟨z,hd,vs0,r0,dd⟩:=Hu I2.hok e
 cases r0
 refine⟨rs,c,dd,fun h' dd' hs=>⟨.ref s.heap.objs.size,_,?_,rfl,q2⟩⟩
 have hz:(i_ [] kvs).length≤sizeLine:=by
  have h1:=lu kvs []
  rw[List.length_nil] at h1
  rw[sizeLine_eq];omega
 have he:∃q,h'.get? s.heap.objs.size=some q:=let⟨q,_,_,hq,_⟩:=dd';⟨q,hq⟩
 exact CA I2 (by rw[e];exact True.intro) hs he (Ex hz hd (rk.merge .nil) dd')
structure M1 (X:Cx) (o:Expr) (m:Str) (apos:Pos) (e:Expr) (cpos:Pos):Prop where
 base:attributeBase o m X.env (eval o X.env)=eval o X.env
 few:((backTo cpos (starEach [e] X.env)).all (fun x=>!x.1) && (backToKw cpos (keywordEach [] X.env)).all (fun x=>x.1.isSome)
  && decide (([e]:List Expr).length+([]:List Keyword).length+(if([]:List Keyword).isEmpty then 0 else 1) < 30))=true
 line:(apos.endLine==cpos.line)=true
 trees:backTo cpos (starEach [e] X.env)=[(false,eval e X.env)]
structure M2 (X:Cx) (o:Expr) (m:Str) (apos:Pos) (e f:Expr) (cpos:Pos):Prop where
 base:attributeBase o m X.env (eval o X.env)=eval o X.env
 few:((backTo cpos (starEach [e,f] X.env)).all (fun x=>!x.1) && (backToKw cpos (keywordEach [] X.env)).all (fun x=>x.1.isSome)
  && decide (([e,f]:List Expr).length+([]:List Keyword).length+(if([]:List Keyword).isEmpty then 0 else 1) < 30))=true
 line:(apos.endLine==cpos.line)=true
 trees:backTo cpos (starEach [e,f] X.env)=[(false,eval e X.env),(false,eval f X.env)]
noncomputable def HE(H:Hp)(a:Addr):Prop:=(∃kvs,Rd H a (.dK kvs))∨∃kvs,Rd H a (.dT kvs)
theorem E8{X:Cx}{pins:List (Addr × Obj)}{σ:St}{H:Hp}{s:Shared}{a:Addr}(I:Inv X pins σ H s)(d:HE H a) :
 s.TypeIs (.ref a) "dict"∧(∀b,Value.ref a= .ref b→∃ob,s.heap.get? b=some ob∧ob.dict=none)∧(a==sysModules)=false:=by
 rcases d with⟨kvs,e⟩ | ⟨kvs,e⟩
 ·obtain⟨_,hd,vs,_,dd⟩:=Aa I.hok e
  refine⟨dd.typeIs,fun b q=>?_,hd⟩
  cases q
  obtain⟨ob,_,_,h1,h2,_⟩:=dd
  exact⟨ob,h1,h2.2.1⟩
 ·obtain⟨_,hd,xs,_,dd⟩:=Ea I.hok e
  refine⟨dd.typeIs,fun b q=>?_,hd⟩
  cases q
  obtain⟨ob,_,_,h1,h2,_⟩:=dd
  exact⟨ob,h1,h2.2.1⟩
section
variable {X:Cx} {pins:List (Addr × Obj)} {σ:St} {H:Hp} {s:Shared} {a:Addr} {y d:V} {u r:Value} {o:Option V} {A:Around} {E:Value→Shared→Prop}
theorem Gz{Q:Value→Shared→Prop}(hu:A.units+1 < cLine)(I:Inv X pins σ H s)(g:qB H a y o)(ry:RelV y u)(rd:RelV d r)(h:∀w' s',Inv X pins σ H s'→RelV (o.getD d) w'→Q w' s') :
 wpAny (model X.prog X.w) A (call (.builtin "dict.get") [.ref a,u,r]) Q E s:=by
 rcases g with⟨kvs,k,e,ey,l⟩ | ⟨kvs,k,b,e,ey,eb,l⟩
 ·subst ey
  obtain⟨z,hd,vs,rel,dd⟩:=Aa I.hok e
  refine call_meetsIn PySem.F.slot_dict_get dd.typeIs PySem.F.entry_dict_get (PySem.F.args_dict_get_3 _ _ _) (meets_dict_get_default (dJ X.prog X.w) a (Bo ry) hd r) ⟨_,dd.mapOf,h _ _ (I.tok _) ?_⟩
  rw[l]
  exact(rel.val k).getD rd
 ·subst ey
  cases(show u=Value.ref b from ry)
  obtain⟨z,hd,xs,rel,dd⟩:=Ea I.hok e
  refine call_meetsIn PySem.F.slot_dict_get dd.typeIs PySem.F.entry_dict_get (PySem.F.args_dict_get_3 _ _ _) (meetsH_dict_get_default (tupleKind (dJ X.prog X.w)) a b hd r) ⟨tupleKind_room_in1 hu,k,xs,A3 I.hok eb,dd,h _ _ (I.tok _) ?_⟩
  rw[l]
  exact(rel.val k).getD rd
end
noncomputable def Jm(td ty:TE):TE:=fun σ H Q=>td σ H fun x H1=>∃a,x= .ref a∧HE H1 a∧ty σ H1 fun y H2=>∃o,qB H2 a y o∧Q (o.getD .dk) H2
noncomputable def Ga(td ty tx:TE):TE:=fun σ H Q=>td σ H fun x H1=>∃a,x= .ref a∧HE H1 a∧ty σ H1 fun y H2=>tx σ H2 fun z H3=>∃o,qB H3 a y o∧Q (o.getD z) H3
noncomputable def Jj(td ty:TE):TE:=fun σ H Q=>td σ H fun x H1=>∃a,x= .ref a∧HE H1 a∧ty σ H1 fun y H2=>∃kvs k v,H2 a=some (.dK kvs)∧y=kV k∧kG kvs k=some v∧Q v (upd H2 a (.dK (Av kvs k)))
noncomputable def IH(td ty tx:TE):TE:=fun σ H Q=>td σ H fun x H1=>∃a,x= .ref a∧HE H1 a∧ty σ H1 fun y H2=>tx σ H2 fun z H3=>∃kvs k,H3 a=some (.dK kvs)∧y=kV k∧
 (∀v,kG kvs k=some v→Q v (upd H3 a (.dK (Av kvs k))))∧(kG kvs k=none→Q z H3)
section
variable {X:Cx} {o e f:Expr} {apos cpos:Pos} {td ty tx:TE}
theorem z_(hu:X.A.units+1 < cLine)(ho:PE X o td)(he:PE X e ty)(hf:PE X f tx)(m:M2 X o "get" apos e f cpos):PE X (.Call (.Attribute o "get" apos) [e,f] [] cpos) (Ga td ty tx):=by
 intro pins s σ H Q I h
 refine wpAny_Call_method m.base m.few m.line PySem.F.plainAttrs_dict PySem.F.slot_dict_get PySem.F.type_dict_get (d5 (ho pins s σ H _ I h) fun u s1 ⟨x,H1,I1,rx,a,ex,d,q1⟩=>?_)
 subst ex
 obtain rfl:u=Value.ref a:=rx
 obtain⟨t1,t2,_⟩:=E8 I1 d
 refine⟨t1,t2,?_⟩
 rw[m.trees]
 refine Calls.callWith_builtin rfl (Calls.evalArgs_plain (Calls.spliced_cons (d5 (he pins s1 σ H1 _ I1 q1) fun iv s2 ⟨y,H2,I2,ry,q2⟩=>
  Calls.spliced_cons (d5 (hf pins s2 σ H2 _ I2 q2) fun fv s3 ⟨z,H3,I3,rz,ov,g,q3⟩=>Calls.spliced_nil ?_))))
 exact Gz hu I3 g ry rz fun w' s4 I4 rw'=>⟨_,H3,I4,rw',q3⟩
end
section
variable {X:Cx} {pins:List (Addr × Obj)} {σ:St} {H:Hp} {s:Shared} {a:Addr} {kvs:List (Key × V)} {A:Around} {E:Value→Shared→Prop}
end
section
variable {X:Cx} {pins:List (Addr × Obj)} {σ:St} {H:Hp} {s:Shared} {a:Addr} {y:V} {u:Value} {A:Around} {E:Value→Shared→Prop}
end
end L2
namespace HT
open PySem PyProof.Rows
noncomputable def lexLt:List Int→List Int→Bool
 | [],[]=>false
 | [],_ ::_=>true
 | _ ::_,[]=>false
 | x ::xs,y ::ys=>if x=y then lexLt xs ys else decide (x < y)
section
open PySem.SeqAt
open PySem.AutoSeq1 (wpAny_loadPart')
open PySem.MeetsSeq PySem.MeetsSeq2 PySem.MeetsSeq3
end
section
variable {prog:Program} {w:World} {A:Around} {E:Value→Shared→Prop} {s:Shared}
theorem DI{t b:Addr}{vs ws:List Value}{Q:Value→Shared→Prop}(ht:IsTup s.heap t vs.toArray)(hb:IsTup s.heap b ws.toArray)(hv:vs≠[])
 (h1:ws=[]→Q (.ref t) s) (h2:ws≠[]→Q (.ref s.heap.objs.size) {s with heap:=s.heap.push {cls:= .type "tuple",data:= .seq (vs++ws).toArray}})
 (hsz:vs.length+ws.length≤sizeLine):wpAny (model prog w) A (binaryOp .Add (.ref t) (.ref b)) Q E s:=by
 obtain⟨⟨cls,dd,data,sl⟩,ho,hc,n,hd⟩:=id ht
 obtain⟨⟨cls2,dd2,data2,sl2⟩,ho2,hc2,n2,hd2⟩:=id hb
 simp only at hc hd hc2 hd2
 subst hc hd hc2 hd2
 have e:vs.toArray++ws.toArray=(vs++ws).toArray:=by simp
 by_cases hw:ws=[]
 ·exact concat_meets ⟨_,ho,rfl⟩ ⟨_,ho2,rfl⟩ noFill_tuple_add seq_tuple_add PySem.F.slot_tuple_add PySem.F.entry_tuple_add (PySem.F.args_tuple_add_2 _ _)
   (tuple_addW1 t b vs.toArray ws.toArray n n2 dd dd2 sl sl2 (by simpa using hv) (by simp [hw])) ⟨ho,ho2,h1 hw⟩
 ·refine concat_meets ⟨_,ho,rfl⟩ ⟨_,ho2,rfl⟩ noFill_tuple_add seq_tuple_add PySem.F.slot_tuple_add PySem.F.entry_tuple_add (PySem.F.args_tuple_add_2 _ _)
   (tuple_addW2 t b vs.toArray ws.toArray n n2 dd dd2 sl sl2 (by simpa using hv) (by simpa using hw) (by rw[List.size_toArray,List.size_toArray];exact hsz)) ⟨ho,ho2,?_⟩
  rw[e]
  exact h2 hw
noncomputable def o8(n d:Nat):Option Int→Nat
 | none=>d
 | some v=>if v < 0 then(v+(n:Int)).toNat else min v.toNat n
theorem AY(n d:Nat):o8 n d none=d:=rfl
theorem rX(n d k:Nat):o8 n d (some (k:Int))=min k n:=by
 show(if(k:Int) < 0 then((k:Int)+(n:Int)).toNat else min (k:Int).toNat n)=min k n
 rw[if_neg (by omega),Int.toNat_natCast]
end
end HT
namespace L2
open PySem PySem.Spec PyProof.Rows
noncomputable abbrev TO:=St→Hp→(Option Int→Hp→Prop)→Prop
noncomputable def PO(X:Cx)(e:Option Expr)(t:TO):Prop:=
 ∀(pins:List (Addr × Obj)) (s:Shared) (σ:St) (H:Hp) (Q:Option Int→Hp→Prop),Inv X pins σ H s→t σ H Q→
  wpAny (model X.prog X.w) X.A (evalPart e X.env) (fun u s'=>∃o H',Inv X pins σ H' s'∧IsPart u o∧Q o H') X.xe s
noncomputable def DS:TO:=fun _ H Q=>Q none H
noncomputable def Hy(t:TE):TO:=fun σ H Q=>t σ H fun x H1=>∃i,x= .int i∧Q (some i) H1
section
variable {X:Cx} {e:Expr} {te:TE} {lo hi:Option Expr} {tl th:TO} {pos p2:Pos}
theorem CI:PO X none DS:=by
 intro pins s σ H Q I h
 rw[evalPart_none]
 exact wpAny_pure ⟨none,H,I, .none,h⟩
theorem DJ(h:PE X e te):PO X (some e) (Hy te):=by
 intro pins s σ H Q I hw
 rw[evalPart_some]
 refine d5 (h pins s σ H _ I hw) fun u s1 ⟨x,H1,I1,r1,q1⟩=>?_
 obtain⟨i,rfl,q⟩:=q1
 obtain⟨t,rfl⟩:=r1
 exact⟨some i,H1,I1, .int i t,q⟩
noncomputable def EJ(X:Cx)(r:V→Option Int→Option Int→Hp→VK→Prop):Prop:=
 ∀(pins:List (Addr × Obj)) (s:Shared) (σ:St) (H:Hp) (x:V) (v vl vu:Value) (lo hi:Option Int) (sl:Addr) (Q:VK),Inv X pins σ H s→RelV x v→s.heap.IsSliceOf sl vl vu .none→IsPart vl lo→IsPart vu hi→r x lo hi H Q→
  ∃T id,typeLookup (.type T) "__getitem__"=pure (some (.builtin id))∧s.TypeIs v T∧wpAny (model X.prog X.w) X.A (getItem v (.ref sl)) (EP X pins σ Q) X.xe s
theorem EJ.or{r r':V→Option Int→Option Int→Hp→VK→Prop}(h:EJ X r)(h':EJ X r'):EJ X (fun x lo hi H Q=>r x lo hi H Q∨r' x lo hi H Q):=by
 intro pins s σ H x v vl vu lo hi sl Q I rx hs pl pu q
 rcases q with q | q
 ·exact h pins s σ H x v vl vu lo hi sl Q I rx hs pl pu q
 ·exact h' pins s σ H x v vl vu lo hi sl Q I rx hs pl pu q
noncomputable def KD(r:V→Option Int→Option Int→Hp→VK→Prop)(te:TE)(tl th:TO):TE:=fun σ H Q=>te σ H fun x H1=>tl σ H1 fun l H2=>th σ H2 fun u H3=>r x l u H3 Q
theorem zV{r:V→Option Int→Option Int→Hp→VK→Prop}(hr:EJ X r)(he:PE X e te)(hl:PO X lo tl)(hu:PO X hi th):PE X (.Subscript e (.Slice lo hi none p2) pos) (KD r te tl th):=by
 intro pins s σ H Q I h
 refine Subscript_ (d5 (he pins s σ H _ I h) fun v s1 ⟨x,H1,I1,r1,q1⟩=>?_)
 refine wpAny_Slice (d5 (hl pins s1 σ H1 _ I1 q1) fun vl s2 ⟨l,H2,I2,pl,q2⟩=>d5 (hu pins s2 σ H2 _ I2 q2) fun vu s3 ⟨u,H3,I3,pu,q3⟩=>?_)
 rw[evalPart_none]
 refine wpAny_pure ?_
 have I4:Inv X pins σ H3 {s3 with heap:=s3.heap.push {cls:= .type "slice",data:= .fields #[vl,vu, .none]}}:=I3.kept (t':=s3.toks) fun b ob q=>Heap.get?_push_of_some _ q
 obtain⟨T,id,hT,ht,hg⟩:=hr pins {s3 with heap:=s3.heap.push {cls:= .type "slice",data:= .fields #[vl,vu, .none]}} σ H3 x v vl vu l u s3.heap.objs.size Q I4 r1 (Heap.IsSliceOf.new ..) pl pu q3
 show wpAny (model X.prog X.w) X.A (subscriptTail e (.Slice lo hi none p2) v (.ref s3.heap.objs.size)) (EP X pins σ Q) X.xe {s3 with heap:=s3.heap.push {cls:= .type "slice",data:= .fields #[vl,vu, .none]}}
 exact tail_any (ops:=[.ref s3.heap.objs.size,v]) ht hT hg (by with_unfolding_all rfl)
noncomputable def vX(xs:List V)(lo hi:Option Int):List V:=(xs.drop (HT.o8 xs.length 0 lo)).take (HT.o8 xs.length xs.length hi - HT.o8 xs.length 0 lo)
theorem tJ(xs:List V)(lo hi:Option Int):(vX xs lo hi).length≤xs.length:=by
 unfold vX
 rw[List.length_take,List.length_drop]
 omega
noncomputable def LQ(K:PySem.W.Frag):V→Option Int→Option Int→Hp→VK→Prop:=fun x lo hi H Q=>∃a xs,x= .ref a∧oO K H a xs∧
 ¬(HT.o8 xs.length 0 lo=0∧HT.o8 xs.length xs.length hi=xs.length)∧∀p,H p=none→Q (.ref p) (upd H p (.tup (vX xs lo hi)))
noncomputable def LM(K:PySem.W.Frag):R2:=fun x y H Q=>∃a b ns ms,x= .ref a∧y= .ref b∧oO K H a (ns.map V.int)∧oO K H b (ms.map V.int)∧Q (.bl (HT.lexLt ns ms)) H
noncomputable def Ki(K:PySem.W.Frag):R2:=fun x y H Q=>∃a b xs ys,x= .ref a∧y= .ref b∧oO K H a xs∧oO K H b ys∧xs≠[]∧xs.length+ys.length≤sizeLine∧
 (ys=[]→Q (.ref a) H)∧(ys≠[]→∀p,H p=none→Q (.ref p) (upd H p (.tup (xs++ys))))
end
end L2
namespace L2
open PySem PySem.Spec PyProof.Rows
noncomputable def pW(n:Nat)(i:Int):Option Nat:=if 0≤i then(if i < n then some i.toNat else none) else if -(n:Int)≤i then some (i+n).toNat else none
noncomputable def oJ{α:Type}(xs:List α)(i:Int):Option α:=(pW xs.length i).bind fun j=>xs[j]?
theorem yj{n:Nat}{i:Int}{j:Nat}(h:pW n i=some j):seqIndex? i n=some j∧j < n∧ -(n:Int)≤i∧i < n:=by
 unfold pW at h
 by_cases h0:0≤i
 ·rw[if_pos h0] at h
  by_cases h1:i < n
  ·rw[if_pos h1] at h
   have e:i.toNat=j:=Option.some.inj h
   exact⟨by rw[seqIndex_of h0 h1,e],by omega,by omega,h1⟩
  ·rw[if_neg h1] at h;cases h
 ·rw[if_neg h0] at h
  by_cases h1: -(n:Int)≤i
  ·rw[if_pos h1] at h
   have e:(i+n).toNat=j:=Option.some.inj h
   exact⟨by rw[seqIndex_neg (by omega) h1,e],by omega,h1,by omega⟩
  ·rw[if_neg h1] at h;cases h
theorem sk{α:Type}{xs:List α}{i:Int}{v:α}(h:oJ xs i=some v):∃j,seqIndex? i xs.length=some j∧xs[j]? =some v∧j < xs.length∧ -(xs.length:Int)≤i∧i < xs.length:=by
 unfold oJ at h
 cases e:pW xs.length i with
 | none=>rw [e] at h;cases h
 | some j=>
   rw[e] at h
   obtain⟨h1,h2,h3,h4⟩:=yj e
   exact⟨j,h1,h,h2,h3,h4⟩
noncomputable def o7(b:Expr):Prop:=∀o i,subscripted b false o i=operate [o,i] (getItem o i)
noncomputable def Ca(X:Cx)(r:R2):Prop:=
 ∀(value slice:Expr) (pins:List (Addr × Obj)) (s:Shared) (σ:St) (H:Hp) (x y:V) (v u:Value) (Q:VK),Inv X pins σ H s→RelV x v→RelV y u→r x y H Q→
  subscripted slice false v u=operate [v,u] (getItem v u)→wpAny (model X.prog X.w) X.A (subscriptTail value slice v u) (EP X pins σ Q) X.xe s
noncomputable def Kk(X:Cx)(id:String)(r:V→List V→Hp→VK→Prop):Prop:=
 ∀(pins:List (Addr × Obj)) (s:Shared) (σ:St) (H:Hp) (x:V) (xs:List V) (v:Value) (us:List Value) (Q:VK),Inv X pins σ H s→RelV x v→Vals xs us→r x xs H Q→
  wpAny (model X.prog X.w) X.A (call (.builtin id) (v ::us)) (EP X pins σ Q) X.xe s
section
variable {X:Cx} {a b:Expr} {ta tb:TE} {pos:Pos}
theorem Ca.or{r r':R2}(h:Ca X r)(h':Ca X r'):Ca X (fun x y H Q=>r x y H Q∨r' x y H Q):=by
 intro value slice pins s σ H x y v u Q I rx ry q hs
 rcases q with q | q
 ·exact h value slice pins s σ H x y v u Q I rx ry q hs
 ·exact h' value slice pins s σ H x y v u Q I rx ry q hs
theorem Eh{r:R2}(hr:Ca X r)(ha:PE X a ta)(hb:PE X b tb)(hs:o7 b):PE X (.Subscript a b pos) (GC r ta tb):=by
 intro pins s σ H Q I h
 exact Subscript_ (FR ha hb I h fun v u s2 x y H2 I2 rx ry q=>hr a b pins s2 σ H2 x y v u Q I2 rx ry q (hs _ _))
noncomputable def Hf(K:PySem.W.Frag):R2:=fun x y H Q=>∃p xs i v,x= .ref p∧y= .int i∧mD K H p xs∧oJ xs i=some v∧Q v H
noncomputable def Hl(K:PySem.W.Frag):R2:=fun x y H Q=>∃p xs i v,x= .ref p∧y= .int i∧oO K H p xs∧oJ xs i=some v∧Q v H
noncomputable def G9:R2:=fun x y H Q=>∃z i c,x= .str z∧y= .int i∧z.length≤sizeLine∧oJ z.cps.toList i=some c∧Q (.str ⟨#[c]⟩) H
theorem DH:Ca X (Hf X.K):=by
 intro value slice pins s σ H x y v u Q I rx ry h hs
 obtain⟨p,xs,i,z,rfl,rfl,hq,he,q⟩:=h
 cases rx
 obtain⟨t,rfl⟩:=ry
 obtain⟨its,r,pl,hz⟩:=I.list hq
 obtain⟨j,h1,h2,h3,h4,h5⟩:=sk he
 obtain⟨w,ew,rw'⟩:=r.get h2
 have hl:=r.length
 have hn:=nT
 have fin:EP X pins σ Q w s:=⟨z,H,I,rw',q⟩
 by_cases h0:0≤i
 ·have hj:i.toNat=j:=by
   rw[seqIndex_of h0 h5] at h1
   exact Option.some.inj h1
  exact item_listR pl.isList h0 (by omega) (by rw[hj];simpa using ew) fin hs
 ·have hj:(i+(its.toArray.size:Int)).toNat=j:=by
   rw[seqIndex_neg (by omega) h4] at h1
   rw[List.size_toArray,←hl]
   exact Option.some.inj h1
  exact subscriptTail_builtinR (x:=w) pl.isList.typeIs slot_list_getitem.lookup
   (wpAny_getItem_list_neg (Q:=fun r s'=>r=w∧EP X pins σ Q r s') pl.isList (by omega) (by rw[List.size_toArray] <;> omega) (by omega) (by rw[hj];simpa using ew) ⟨rfl,fin⟩) hs
theorem EE:Ca X (Hl X.K):=by
 intro value slice pins s σ H x y v u Q I rx ry h hs
 obtain⟨p,xs,i,z,rfl,rfl,hq,he,q⟩:=h
 cases rx
 obtain⟨t,rfl⟩:=ry
 obtain⟨its,r,pl,hz⟩:=I.tuple hq
 obtain⟨j,h1,h2,h3,h4,h5⟩:=sk he
 obtain⟨w,ew,rw'⟩:=r.get h2
 have hl:=r.length
 have hn:=nT
 have fin:EP X pins σ Q w s:=⟨z,H,I,rw',q⟩
 exact subscriptTail_builtinR (x:=w) pl.typeIs slot_tuple_getitem.lookup
  (getItem_tuple (j:=j) (Q:=fun r s'=>r=w∧EP X pins σ Q r s') pl (by omega) (by omega) (by rw[List.size_toArray,←hl];exact h1) (by simpa using ew) ⟨rfl,fin⟩) hs
theorem Fq:Ca X G9:=by
 intro value slice pins s σ H x y v u Q I rx ry h hs
 obtain⟨z,i,c,rfl,rfl,hz,he,q⟩:=h
 obtain⟨t,rfl⟩:=rx
 obtain⟨t',rfl⟩:=ry
 obtain⟨j,h1,h2,h3,h4,h5⟩:=sk he
 have hl:z.cps.toList.length=z.length:=by simp [Str.length]
 rw[hl] at h1 h4 h5
 have hn:=nT
 exact tail_any (typeIs_str s z t) slot_str_getitem.lookup (getItem_str (c:=c) (by
  have e1:decide (i < -(2 ^ 63:Int))=false:=decide_eq_false (by omega)
  have e2:decide (i≥2 ^ 63)=false:=decide_eq_false (by omega)
  rw[e1,e2,Bool.or_false]) (by rw[h1];simpa using h2) ⟨.str ⟨#[c]⟩,H,I.tok _,⟨_,rfl⟩,q⟩) hs
noncomputable def Jc(K:PySem.W.Frag):R2:=fun x y H Q=>Hf K x y H Q∨Hl K x y H Q∨G9 x y H Q
theorem zN:Ca X (Jc X.K):=DH.or (EE.or Fq)
theorem wm(its:List Value)(n j:Nat)(u:Value):Obj.mapSeq (·.setIfInBounds j u) {cls:= .type "list",data:= .seq its.toArray n}={cls:= .type "list",data:= .seq (its.set j u).toArray n}:=by
 simp [Obj.mapSeq]
theorem Inv.lst{pins:List (Addr × Obj)}{σ:St}{H:Hp}{s:Shared}{p:Addr}{xs:List V}(I:Inv X pins σ H s)(h:H p=some (.lst xs)) :
 ∃(its:List Value) (n:Nat),Vals xs its∧s.heap.get? p=some {cls:= .type "list",data:= .seq its.toArray n}∧xs.length≤sizeLine:=by
 obtain⟨z,its,n,r,e⟩:=I.hok p _ h
 exact⟨its,n,r,e,z⟩
theorem Inv.ES{pins:List (Addr × Obj)}{σ:St}{H:Hp}{s:Shared}{p:Addr}{xs ys:List V}{its its':List Value}{n n':Nat}{f:Obj→Obj}(I:Inv X pins σ H s)(h:H p=some (.lst xs))
 (ho:s.heap.get? p=some {cls:= .type "list",data:= .seq its.toArray n}) (hf:f {cls:= .type "list",data:= .seq its.toArray n}={cls:= .type "list",data:= .seq its'.toArray n'}) (r:Vals ys its') (hz:ys.length≤sizeLine) (t:Nat) :
 Inv X pins σ (upd H p (.lst ys)) {s with heap:=s.heap.update p f,toks:=t}:=by
 have e:(s.heap.update p f).get? p=some {cls:= .type "list",data:= .seq its'.toArray n'}:=by
  rw[Heap.get?_update_self f ho (by rw[hf] <;> rfl),hf]
 refine I.write (x:=p) (e:=p) (by rw[h];trivial) (.inl rfl) (fun b u hb q=>(Heap.get?_update_other _ _ (Ne.symm hb)).trans q) ⟨_,e⟩ ?_
 exact⟨hz,its',n',r,e⟩
noncomputable def D4:V→V→V→Hp→(Hp→Prop)→Prop:=fun o i v H Q=>∃p xs k j,o= .ref p∧i= .int k∧H p=some (.lst xs)∧pW xs.length k=some j∧Q (upd H p (.lst (xs.set j v)))
theorem set_list:HL X D4:=by
 intro pins s σ H o i v ov iv u Q I ro ri rv h
 obtain⟨p,xs,k,j,rfl,rfl,hp,hj,q⟩:=h
 cases ro
 obtain⟨t,rfl⟩:=ri
 obtain⟨its,n,r,ho,hz⟩:=I.lst hp
 obtain⟨h1,h2,h3,h4⟩:=yj hj
 have hl:=r.length
 have hn:=nT
 have I':Inv X pins σ (upd H p (.lst (xs.set j v))) {s with heap:=s.heap.update p (Obj.mapSeq (·.setIfInBounds j u))}:=
  I.ES hp ho (wm its n j u) (r.set rv j) (by rw[List.length_set];exact hz) s.toks
 by_cases h0:0≤k
 ·have hk:k.toNat=j:=by
   rw[seqIndex_of h0 h4] at h1
   exact Option.some.inj h1
  exact PySem.W.ki_setAt ho h0 (by omega) (by rw[List.size_toArray,←hl];exact h4) (by rw[hk];exact⟨_,I',q⟩)
 ·have hk:(k+(its.toArray.size:Int)).toNat=j:=by
   rw[seqIndex_neg (by omega) h3] at h1
   rw[List.size_toArray,←hl]
   exact Option.some.inj h1
  exact PySem.W.ki_setBack ho (by omega) (by rw[List.size_toArray,←hl];exact h3) (by omega) (by rw[hk];exact⟨_,I',q⟩)
theorem sr(lo hi:Option Int)(n:Nat):(sliceBounds lo hi none n).1=((HT.o8 n 0 lo:Nat):Int)∧(sliceBounds lo hi none n).2.1=((HT.o8 n n hi:Nat):Int)∧(sliceBounds lo hi none n).2.2=1:=by
 refine⟨?_,?_,rfl⟩
 ·cases lo with
  | none=>simp [sliceBounds,HT.o8]
  | some i=>
    simp only[sliceBounds,HT.o8,Option.getD_none,show(1:Int) > 0 by decide,if_true]
    by_cases h:i < 0
    ·simp only[h,if_true] <;> omega
    ·simp only[h,if_false] <;> omega
 ·cases hi with
  | none=>simp [sliceBounds,HT.o8]
  | some i=>
    simp only[sliceBounds,HT.o8,Option.getD_none,show(1:Int) > 0 by decide,if_true]
    by_cases h:i < 0
    ·simp only[h,if_true] <;> omega
    ·simp only[h,if_false] <;> omega
theorem qO(its:List Value)(lo hi:Option Int):slicePick its.toArray lo hi none=((its.drop (HT.o8 its.length 0 lo)).take (HT.o8 its.length its.length hi - HT.o8 its.length 0 lo)).toArray:=by
 obtain⟨h1,h2,h3⟩:=sr lo hi its.toArray.size
 unfold slicePick
 rw[h1,h2,h3]
 simp only[sliceRange_one,pick_run,List.size_toArray] <;> rfl
noncomputable def Jy(K:PySem.W.Frag):V→Option Int→Option Int→Hp→VK→Prop:=fun x lo hi H Q=>∃a xs,x= .ref a∧mD K H a xs∧∀p,H p=none→Q (.ref p) (upd H p (.lst (vX xs lo hi)))
theorem Cw:EJ X (Jy X.K):=by
 intro pins s σ H x v vl vu lo hi sl Q I rx hs pl pu h
 obtain⟨a,xs,rfl,hx,q⟩:=h
 cases rx
 obtain⟨its,r,ht,hz⟩:=I.list hx
 have hlen:=r.length
 refine⟨"list",_,slot_list_getitem.lookup,ht.isList.typeIs,?_⟩
 refine wpAny_getItem_list_slice ht.isList hs pl pu .none (by simp) ?_ (by rw[List.size_toArray] <;> omega)
 rw[qO,←hlen]
 refine⟨.ref s.heap.objs.size,_,I.laid (t':=s.toks) (o:= .lst (vX xs lo hi)) (fun b ob q=>Heap.get?_push_of_some _ q) (Nat.le_refl _) ?_,rfl,q _ (I.hok.fresh (Nat.le_refl _))⟩
 exact⟨Nat.le_trans (tJ xs lo hi) hz,_,0,(r.drop (HT.o8 xs.length 0 lo)).take (HT.o8 xs.length xs.length hi - HT.o8 xs.length 0 lo),Heap.get?_push_size _ rfl⟩
noncomputable def j_:V→Bool
 | .dk=>true
 | .bl _=>true
 | .int _=>true
 | .str _=>true
 | _=>false
noncomputable def Eg:V→V→Bool
 | .dk, .dk=>true
 | .bl a, .bl b=>a==b
 | .bl a, .int b=>(if a then 1 else 0)==b
 | .int a, .bl b=>a==(if b then 1 else 0)
 | .int a, .int b=>a==b
 | .str a, .str b=>a==b
 | _,_=>false
theorem Gd{A:Around}{s:Shared}{y x:V}{u v:Value}(ry:RelV y u)(rx:RelV x v)(fy:j_ y=true)(fx:j_ x=true):SeqAt.EqAt A s u v (Eg y x):=by
 cases y with
 | dk=>
   cases ry
   cases x with
   | dk=>cases rx;exact SeqAt.EqAt.same _
   | bl b=>cases rx;exact SeqAt.EqAt.none_bool b
   | int b=>obtain⟨t,rfl⟩:=rx;exact SeqAt.EqAt.none_int b t
   | str b=>obtain⟨t,rfl⟩:=rx;exact SeqAt.EqAt.none_str b t
   | _=>exact absurd (show false=true from fx) Bool.false_ne_true
 | bl a=>
   cases ry
   cases x with
   | dk=>cases rx;exact SeqAt.EqAt.bool_none a
   | bl b=>cases rx;exact SeqAt.EqAt.bool_bool a b
   | int b=>obtain⟨t,rfl⟩:=rx;exact SeqAt.EqAt.bool_int a b t
   | str b=>obtain⟨t,rfl⟩:=rx;exact SeqAt.EqAt.bool_str a b t
   | _=>exact absurd (show false=true from fx) Bool.false_ne_true
 | int a=>
   obtain⟨t',rfl⟩:=ry
   cases x with
   | dk=>cases rx;exact SeqAt.EqAt.int_none a t'
   | bl b=>cases rx;exact SeqAt.EqAt.int_bool a t' b
   | int b=>obtain⟨t,rfl⟩:=rx;exact SeqAt.EqAt.int_int a t' b t
   | str b=>obtain⟨t,rfl⟩:=rx;exact SeqAt.EqAt.int_str a t' b t
   | _=>exact absurd (show false=true from fx) Bool.false_ne_true
 | str a=>
   obtain⟨t',rfl⟩:=ry
   cases x with
   | dk=>cases rx;exact SeqAt.EqAt.str_none a t'
   | bl b=>cases rx;exact SeqAt.EqAt.str_bool a t' b
   | int b=>obtain⟨t,rfl⟩:=rx;exact SeqAt.EqAt.str_int a t' b t
   | str b=>obtain⟨t,rfl⟩:=rx;exact SeqAt.EqAt.str_str a t' b t
   | _=>exact absurd (show false=true from fx) Bool.false_ne_true
 | _=>exact absurd (show false=true from fy) Bool.false_ne_true
noncomputable def Cz(x:V)(u:Value):Bool:=match u with
 | .none=>Eg .dk x
 | .bool b=>Eg (.bl b) x
 | .int i _=>Eg (.int i) x
 | .str z _=>Eg (.str z) x
 | _=>false
theorem zD{x y:V}{u:Value}(r:RelV y u)(f:j_ y=true):Cz x u=Eg y x:=by
 cases y with
 | dk=>cases r;rfl
 | bl b=>cases r;rfl
 | int i=>obtain⟨t,rfl⟩:=r;rfl
 | str z=>obtain⟨t,rfl⟩:=r;rfl
 | _=>exact absurd (show false=true from f) Bool.false_ne_true
theorem r_{x:V}:∀{xs:List V} {us:List Value},Vals xs us→xs.all j_=true→us.any (Cz x)=xs.any fun y=>Eg y x
 | _,_, .nil,_=>rfl
 | y ::xs,u ::us, .cons r t,f=>by
   rw[List.all_cons,Bool.and_eq_true] at f
   rw[List.any_cons,List.any_cons,zD r f.1,r_ t f.2]
theorem pC{A:Around}{s:Shared}{x:V}{v:Value}(rx:RelV x v)(fx:j_ x=true):∀{xs:List V} {us:List Value},Vals xs us→xs.all j_=true→∀u∈us,SeqAt.EqAt A s u v (Cz x u)
 | _,_, .nil,_=>fun u hu=>by cases hu
 | y ::xs,u ::us, .cons r t,f=>fun u' hu=>by
   rw[List.all_cons,Bool.and_eq_true] at f
   rcases List.mem_cons.mp hu with rfl | hu
   ·rw[zD r f.1];exact Gd r rx f.1 fx
   ·exact pC rx fx t f.2 u' hu
noncomputable def Ej(x:V)(xs:List V):Bool:=xs.any fun y=>Eg y x
noncomputable def Kp(K:PySem.W.Frag)(neg:Bool):R2:=fun x y H Q=>∃p xs,y= .ref p∧(mD K H p xs∨oO K H p xs)∧j_ x=true∧xs.all j_=true∧Q (.bl (if neg then !Ej x xs else Ej x xs)) H
theorem yw:k6 X (compareOp .In) (Kp X.K false):=by
 intro pins s σ H x y v u Q I rx ry h
 obtain⟨p,xs,rfl,hq,fx,fs,q⟩:=h
 cases ry
 rcases hq with hq | hq
 ·obtain⟨its,r,pl,hz⟩:=I.list hq
  refine SeqAt.in_listAt (Cz x) pl.isList (fun w hw=>pC rx fx r fs w (by simpa using hw)) ⟨.bl _,H,I,rfl,?_⟩
  rw[show its.toArray.any (Cz x)=its.any (Cz x) by simp,r_ r fs]
  exact q
 ·obtain⟨its,r,pl,hz⟩:=I.tuple hq
  refine SeqAt.in_tupleAt (Cz x) pl (fun w hw=>pC rx fx r fs w (by simpa using hw)) ⟨.bl _,H,I,rfl,?_⟩
  rw[show its.toArray.any (Cz x)=its.any (Cz x) by simp,r_ r fs]
  exact q
theorem qG:kq X (.type "tuple") (fun xs H Q=>∃p ys,xs=[.ref p]∧((mD X.K H p ys∧∀l,H l=none→Q (.ref l) (upd H l (.tup ys)))∨(oO X.K H p ys∧Q (.ref p) H))):=by
 intro pins s σ H xs us Q I r h
 obtain⟨p,ys,rfl,h⟩:=h
 obtain⟨u,rfl,rx⟩:=vals1 r
 cases rx
 rcases h with⟨hq,q⟩ | ⟨hq,q⟩
 ·obtain⟨its,r',pl,hz⟩:=I.list hq
  have hlen:=r'.length
  refine call_tuple_list pl.isList (fun h' kp=>?_) (by simp only[List.size_toArray] <;> omega)
  have I1:Inv X pins σ H {s with heap:=h'}:=I.kept (t':=s.toks) kp
  have I2:Inv X pins σ (upd H h'.objs.size (.tup ys)) {s with heap:=h'.push {cls:= .type "tuple",data:= .seq its.toArray}}:=
   I1.laid (t':=s.toks) (fun b o e=>Heap.get?_push_of_some _ e) (Nat.le_refl _) (show e_ X.prog X.w _ _ _ (.tup ys) from⟨hz,its,r',IsTup.new _ _⟩)
  exact⟨.ref h'.objs.size,_,I2,rfl,q _ (I1.hok.fresh (Nat.le_refl _))⟩
 ·obtain⟨its,r',pl,hz⟩:=I.tuple hq
  exact call_tuple_same pl ⟨.ref p,H,I,rfl,q⟩
noncomputable def Jr(K:PySem.W.Frag)(T:String)(x:V)(H:Hp):Prop:=match x with
 | .str _=>T="str"
 | .int _=>T="int"
 | .ref p=>(T="list"∧∃xs,mD K H p xs)∨(T="tuple"∧∃o,K.lookup p=some o∧o.cls= .type "tuple"∧o.dict=none)∨
    (T="dict"∧((∃kvs,H p=some (.dK kvs))∨∃kvs,H p=some (.dT kvs)))∨(T="set"∧∃S n,H p=some (.set S n))
 | _=>False
theorem Gr{pins:List (Addr × Obj)}{σ:St}{H:Hp}{s:Shared}{T:String}{x:V}{v:Value}(I:Inv X pins σ H s)(r:RelV x v)(ty:Jr X.K T x H) :
 s.TypeIs v T∧∀a,v= .ref a→∃ob,s.heap.get? a=some ob∧ob.dict=none:=by
 cases x with
 | str z=>
   obtain⟨t,rfl⟩:=r
   cases(show T="str" from ty)
   exact⟨typeIs_str s z t,fun _ e=>nomatch e⟩
 | int i=>
   obtain⟨t,rfl⟩:=r
   cases(show T="int" from ty)
   exact⟨typeIs_int s i t,fun _ e=>nomatch e⟩
 | ref p=>
   cases r
   rcases ty with⟨rfl,xs,hq⟩ | ⟨rfl,o,hk,hc,hd⟩ | ⟨rfl,hk⟩ | ⟨rfl,S,n,hk⟩
   ·obtain⟨its,_,pl,_⟩:=I.list hq
    refine⟨pl.isList.typeIs,fun a e=>?_⟩
    cases e
    obtain⟨o,n,e,c,hd,_⟩:=pl
    exact⟨o,e,hd⟩
   ·refine⟨⟨o,I.xA p o hk,hc⟩,fun a e=>?_⟩
    cases e
    exact⟨o,I.xA _ o hk,hd⟩
   ·have z:∃o,s.heap.get? p=some o∧o.ExactDict:=by
     rcases hk with⟨kvs,hk⟩ | ⟨kvs,hk⟩
     ·obtain⟨_,_,_,_,o,_,_,e,ex,_⟩:=I.hok p _ hk
      exact⟨o,e,ex⟩
     ·obtain⟨_,_,_,_,o,_,_,e,ex,_⟩:=I.hok p _ hk
      exact⟨o,e,ex⟩
    obtain⟨o,e,ex⟩:=z
    refine⟨⟨o,e,ex.1⟩,fun a e2=>?_⟩
    cases e2
    exact⟨o,e,ex.2.1⟩
   ·obtain⟨o,_,_,_,e,ex,_⟩:=I.hok p _ hk
    refine⟨⟨o,e,ex.1⟩,fun a e2=>?_⟩
    cases e2
    exact⟨o,e,ex.2.1⟩
 | _=>exact False.elim ty
noncomputable def KI(K:PySem.W.Frag)(T:String)(r:V→List V→Hp→VK→Prop)(to:TE):TE:=fun σ H Q=>to σ H fun x H1=>Jr K T x H1∧r x [] H1 Q
noncomputable def K6(K:PySem.W.Frag)(T:String)(r:V→List V→Hp→VK→Prop)(to:TE)(t:TA):TE:=fun σ H Q=>to σ H fun x H1=>Jr K T x H1∧t σ H1 fun xs H2=>r x xs H2 Q
variable {o e:Expr} {es:List Expr} {to:TE} {t:TA} {name:Str} {apos cpos:Pos} {T id:String} {r:V→List V→Hp→VK→Prop}
theorem Bz(pa:PlainAttrs T)(slot:Slot T name id)(hty:typeOf (.builtin id)=pure (.type "method_descriptor"))(hm:Kk X id r)(ho:PE X o to)(ha:PA X (e ::es) t)
 (hbase:attributeBase o name X.env (eval o X.env)=eval o X.env:=by rfl)
 (hfew:((backTo cpos (starEach (e ::es) X.env)).all (fun x=>!x.1) && (backToKw cpos (keywordEach [] X.env)).all (fun x=>x.1.isSome)
   && decide ((e ::es).length+([]:List Keyword).length+(if([]:List Keyword).isEmpty then 0 else 1) < 30))=true:=by rfl)
 (hline:(apos.endLine==cpos.line)=true:=by rfl) (hs:starEach (e ::es) X.env=(false,eval e X.env) ::starEach es X.env:=by rfl) (hplain:(backTo cpos (starEach es X.env)).any (·.1)=false:=by rfl) :
 PE X (.Call (.Attribute o name apos) (e ::es) [] cpos) (K6 X.K T r to t):=by
 intro pins s σ H Q I h
 refine wpAny_Call_method_late hbase hfew hline rfl (d5 (ho pins s σ H _ I h) fun v s1 ⟨x,H1,I1,r1,ty,q1⟩=>?_)
 obtain⟨h1,h2⟩:=Gr I1 r1 ty
 refine⟨T,id,pa,slot,hty,h1,h2,?_⟩
 have hA:=ha cpos pins s1 σ H1 _ I1 q1
 rw[hs] at hA ⊢
 refine Calls.callWith_builtin (by show(false || (backTo cpos (starEach es X.env)).any (·.1))=false;rw [hplain] <;> rfl) (Calls.evalArgs_plain ?_)
 exact d5 hA fun us s2 ⟨vs,H2,I2,r2,q2⟩=>hm pins s2 σ H2 x vs v us Q I2 r1 r2 q2
end
end L2
namespace L2
open PySem PySem.Spec PyProof.Rows
noncomputable def Kx(X:Cx)(id:String)(r:V→List V→Hp→VK→Prop):Prop:=
 ∀(pins:List (Addr × Obj)) (s:Shared) (σ:St) (H:Hp) (x:V) (xs:List V) (v:Value) (us:List Value) (Q:VK),Inv X pins σ H s→RelV x v→Vals xs us→r x xs H Q→
  wpAny (model X.prog X.w) X.A (call (.builtin id) (v ::us)) (EP X pins σ Q) X.xe s
theorem Vals.one:∀{x:V} {us:List Value},Vals [x] us→∃u,us=[u]∧RelV x u
 | _,_, .cons r .nil=>⟨_,rfl,r⟩
section
variable {X:Cx} {pins:List (Addr × Obj)} {σ:St} {H:Hp} {s:Shared} {l b:Addr} {xs ys zs:List V}
theorem Inv.Iw{its its':List Value}{n:Nat}{f:Array Value→Array Value}{t':Nat}(I:Inv X pins σ H s)(hH:H l=some (.lst xs))
 (e:s.heap.get? l=some {cls:= .type "list",data:= .seq its.toArray n}) (hf:f its.toArray=its'.toArray) (hv:Vals ys its') (hz:ys.length≤sizeLine) :
 Inv X pins σ (upd H l (.lst ys)) {s with heap:=s.heap.update l (Obj.mapSeq f),toks:=t'}:=by
 have q:=PySem.IsL.update e f
 rw[hf] at q
 refine I.write (x:=l) (e:=l) (by rw[hH];exact trivial) (.inl rfl) (fun b' u hb hu=>(Heap.get?_update_other s.heap (Obj.mapSeq f) (Ne.symm hb)).trans hu) ⟨_,q⟩ ?_
 exact⟨hz,its',_,hv,q⟩
theorem Inv.Et{its:List Value}{t':Nat}(I:Inv X pins σ H s)(hv:Vals ys its)(hz:ys.length≤sizeLine) :
 Inv X pins σ (upd H s.heap.objs.size (.lst ys)) {s with heap:=s.heap.push {cls:= .type "list",data:= .seq its.toArray},toks:=t'}:=
 I.laid (fun _ _ q=>Heap.get?_push_of_some _ q) (Nat.le_refl _) ⟨hz,its,0,hv,Heap.get?_push_size _ rfl⟩
theorem Inv.fresh(I:Inv X pins σ H s):H s.heap.objs.size=none:=I.hok.fresh (Nat.le_refl _)
theorem Inv.IJ(I:Inv X pins σ H s)(hH:H l=some (.lst xs)):xs.length≤sizeLine∧∃(its:List Value) (n:Nat),Vals xs its∧xs.length=its.length∧s.heap.get? l=some {cls:= .type "list",data:= .seq its.toArray n}:=by
 obtain⟨z,its,n,r,e⟩:=I.hok l _ hH
 exact⟨z,its,n,r,r.length,e⟩
end
section
variable {X:Cx}
noncomputable def DP:V→List V→Hp→VK→Prop:=fun x vs H Q=>∃l xs y,x= .ref l∧vs=[y]∧H l=some (.lst xs)∧xs.length < sizeLine∧Q .dk (upd H l (.lst (xs++[y])))
theorem nj:Kx X "list.append" DP:=by
 intro pins s σ H x vs v us Q I rx rv h
 obtain⟨l,xs,y,rfl,rfl,hH,hz,q⟩:=h
 cases rx
 obtain⟨u,rfl,ru⟩:=rv.one
 obtain⟨z,its,n,r,hl,e⟩:=I.IJ hH
 refine call_meets F.slot_list_append ⟨_,e,rfl⟩ F.entry_list_append (F.args_list_append_2 _ _) (PySem.list_append l its.toArray n u (by rw[List.size_toArray];omega)) ⟨e,?_⟩
 refine⟨.dk,_,I.Iw (its':=its++[u]) hH e (by simp) (r.append (.cons ru .nil)) ?_,rfl,q⟩
 rw[List.length_append,List.length_singleton]
 omega
noncomputable def Iq:V→List V→Hp→VK→Prop:=fun x vs H Q=>∃l b xs zs,x= .ref l∧vs=[.ref b]∧H l=some (.lst xs)∧H b=some (.lst zs)∧xs.length+zs.length≤sizeLine∧Q .dk (upd H l (.lst (xs++zs)))
noncomputable def KC:V→List V→Hp→VK→Prop:=fun x vs H Q=>∃l xs y,x= .ref l∧vs=[]∧H l=some (.lst xs)∧xs[xs.length - 1]? =some y∧Q y (upd H l (.lst xs.dropLast))
noncomputable def Je:V→List V→Hp→VK→Prop:=fun x vs H Q=>∃l xs i k y,x= .ref l∧vs=[.int i]∧H l=some (.lst xs)∧ -(2 ^ 63)≤i∧i < 2 ^ 63∧seqIndex? i xs.length=some k∧xs[k]? =some y∧Q y (upd H l (.lst (xs.eraseIdx k)))
noncomputable def H0:V→List V→Hp→VK→Prop:=fun x vs H Q=>∃l xs,x= .ref l∧vs=[]∧H l=some (.lst xs)∧Q .dk (upd H l (.lst xs.reverse))
noncomputable def IT:V→List V→Hp→VK→Prop:=fun x vs H Q=>∃l xs,x= .ref l∧vs=[]∧H l=some (.lst xs)∧Q .dk (upd H l (.lst []))
noncomputable def K_:R2:=fun x y H Q=>∃l b xs zs,x= .ref l∧y= .ref b∧H l=some (.lst xs)∧H b=some (.lst zs)∧xs.length+zs.length≤sizeLine∧∀p,H p=none→Q (.ref p) (upd H p (.lst (xs++zs)))
noncomputable def LA:R2:=fun x y H Q=>∃l k xs,x= .ref l∧y= .int k∧H l=some (.lst xs)∧ -(2 ^ 63)≤k∧k < 2 ^ 63∧xs.length*k.toNat≤sizeLine∧
 ∀p,H p=none→Q (.ref p) (upd H p (.lst (List.replicate k.toNat xs).flatten))
end
section
variable {prog:Program} {w:World} {A:Around} {E:Value→Shared→Prop} {s:Shared}
set_option maxRecDepth 100000 in
end
section
variable {X:Cx}
end
end L2
namespace Att
open PySem PySem.W PySem.Calls PyProof.Rows
theorem oG{P:Params}{h:Heap}:∀(ns:List Int) (vs:List Value),WellAll P h vs (ns.map WData.int)→IntsAre vs ns:=by
 intro ns
 induction ns with
 | nil=>
   intro vs w
   rw[List.map_nil] at w
   cases w
   exact .nil
 | cons n ns ih=>
   intro vs w
   rw[List.map_cons] at w
   cases w with
   | cons a b=>
     cases a
     exact .cons _ _ (ih _ b)
theorem y8{l:OpenLaw}{n:Nat}(hn:l.most=some n){P:Params}{h:Heap}{args:List WData}{vals:List Value}
 (hpre:l.row.toRowW.claim.pre args=true) (hwl:WellAll P h vals args) :
 ∃a vs ns,vals=[Value.ref a]∧args=[WData.list (ns.map WData.int)]∧h.get? a=some {cls:= .type "list",data:= .seq vs.toArray}∧IntsAre vs ns∧ns.length≤n:=by
 have hsh:WShape.hasAll [] args [.list .int]=true:=(pre_splitW hpre).1
 have hc:l.pre.holds [] {args:=args}=true:=(pre_splitW hpre).2
 obtain⟨d,r,rfl,h1,h2⟩:=hasAllW_cons hsh
 obtain rfl:=hasAllW_nil h2
 obtain⟨xs,rfl,h3⟩:=hasW_list h1
 obtain⟨ns,rfl⟩:=items_int h3
 have hlen:ns.length≤n:=by
  unfold OpenLaw.pre at hc
  have h4:(WTm.not (.lt (.lit (.int (n:Int))) (.len (.arg 0)))).holds [] {args:=[.list (ns.map .int)]}=true:=by
   have h4:=(holds_andW hc).1
   rw[hn] at h4
   exact h4
  have h5:=condW_of h4 (w_not (w_lt w_lit (w_len_list (w_arg rfl))))
  rw[List.length_map] at h5
  refine Nat.le_of_not_lt fun q=>?_
  have q':(n:Int) < ((ns.length:Nat):Int):=by omega
  first
   | (rw [decide_eq_true q'] at h5;exact absurd h5 (by decide))
   | (simp at h5;omega)
 cases hwl with
 | cons w1 w2=>
   cases w2
   cases w1 with
   | list ho hall=>exact⟨_,_,ns,rfl,rfl,ho,oG ns _ hall,hlen⟩
theorem y4(l:OpenLaw)(args:List WData):l.row.toRowW.claim.post args (.bool true) args=true:=
 postW_of (r:=l.row.toRowW) (X:=(true==true))
  (show WShape.has [] (.bool true) .bool=true by first | rfl | decide | simp [WShape.has,WShape.arms,WShape.armsAll])
  (show(WTm.eq .res (.lit (.bool true))).value [] {args:=args,res:=some (.bool true),after:=args}=some (.bool (true==true)) from w_eq_bool (w_res rfl) w_lit) rfl
theorem uD{l:OpenLaw}{n:Nat}{q:Program}{loose:List Str}{XP:(Str→Option Value)→Heap→Prop}{YP:World→Heap→Prop}{d:DefRec}
 (hn:l.most=some n) (hdf:d.params.defaults=[])
 (call:∀(w:World) (s₀ s₁:Shared) (mg mb:Str→Option Value) (fa:Addr) (o:Obj) (pm cd doc:Value) (a:Addr) (vs:List Value) (ns:List Int),
   Ground q loose [] XP w s₀ mg mb s₁.heap→YP w s₁.heap→
   s₁.heap.get? fa=some o→o.data= .func (docDef d.name d.params d.body d.scope pm cd doc)→s₁.heap.CodeRec cd d.name→mg d.name=some (.ref fa)→
   s₁.heap.get? a=some {cls:= .type "list",data:= .seq vs.toArray}→IntsAre vs ns→ns.length≤n→s₁.gens=#[]→
   codeAny (model l.prog w) callerA (.call (.ref fa) ⟨[.ref a],[]⟩) (fun r s'=>r= .ok (.ret (.bool true))∧OldK s₁.heap s'.heap∧s'.os=s₁.os∧AllBare s'.gens) s₁) :
 WalkO q loose XP YP l.row.toRowW d [] (fun f vs=>PySem.call f vs):=by
 intro w s₀ s₁ mg mb G Y fa o pm cd doc dV kV ho hd hcd hD hmg hg args vals as hpre hlay hrd hwl hlo
 obtain rfl:dV= .none:=Dflts.none hD hdf
 obtain rfl:kV= .none:=Dflts.noKw hD
 obtain⟨a,vs,ns,rfl,rfl,hobj,hints,hlen⟩:=y8 hn hpre hwl
 refine enter_call (codeAny_mono (call w s₀ s₁ mg mb fa o pm cd doc a vs ns G Y ho (fd_plain hd) hcd hmg hobj hints hlen hg) fun r s' hq=>?_)
 obtain⟨rfl,h2,h3,h4⟩:=hq
 exact⟨.inl ⟨.bool true, .bool true,[],rfl,fun _=>rfl, .bool true,y4 l _,fun _=>⟨List.Pairwise.nil,fun _ hm=>(nomatch hm)⟩⟩,h2,h3,h4⟩
section
variable {prog:Program} {w:World} {A:Around} {E:Value→Shared→Prop} {s:Shared} {K:Frag}
noncomputable def IX(h:Heap):Heap:={h with objs:=#[]}
noncomputable def ledger(h:Heap)(L d:Addr):List (Addr × Obj):=(List.range h.objs.size).filterMap fun a=>if a=L∨a=d then none else(h.get? a).map fun o=>(a,o)
end
end Att
namespace L2
open PySem PySem.Spec PyProof.Rows
theorem rV:∀{vs:List Value} {ns:List Int},IntsAre vs ns→Vals (ns.map V.int) vs
 | _,_, .nil=> .nil
 | _,_, .cons n t h=> .cons ⟨t,rfl⟩ (rV h)
noncomputable def GQ(H:Hp):Prop:=∀b,H b=none∨∃o xs,H b=some (.iF o (.lst xs))
end L2
namespace L2
open PySem PySem.Spec PyProof.Rows
noncomputable abbrev gq{K:PySem.W.Frag}{h:Heap}(_:K.In h):PySem.W.Frag:=K
end L2
namespace L2
open PySem PySem.Spec PyProof.Rows
noncomputable def inClass(s:Stmt)(j:Nat):Stmt:=match s with
 | .ClassDef _ _ _ body _ _ _ _ _ _ _=>body.getD j (.Pass ⟨0,0,0,0⟩)
 | _=> .Pass ⟨0,0,0,0⟩
noncomputable def f7(s:Stmt):Arguments:=match s with
 | .FunctionDef _ a _ _ _ _ _ _ _ _=>a
 | _=>{posonlyargs:=[],args:=[],vararg:=none,kwonlyargs:=[],kw_defaults:=[],kwarg:=none,defaults:=[]}
noncomputable def ai(s:Stmt):List Stmt:=match s with
 | .FunctionDef _ _ b _ _ _ _ _ _ _=>b
 | _=>[]
noncomputable def ae(s:Stmt):Scope:=match s with
 | .FunctionDef _ _ _ _ _ _ sc _ _ _=>sc
 | _=>{kind:= .function,names:=[],isGenerator:=false,isCoroutine:=false}
noncomputable abbrev qQ:AW:=fun _ _ _ _ _ _=>False
noncomputable abbrev E0:XK:=fun _ _ _=>False
theorem vm{X:Cx}:Passes qQ X E0:=fun _ _ _ _ _ _ _ h=>h.elim
structure yc (K:PySem.W.Frag) (x qual:Str) (st:Stmt) (f:Addr) (fd:FuncData):Prop where
 ex:∃(oc:Value) (od:Option Addr) (kV doc pm:Value) (an:Option Addr) (cdv ct:Value) (osl:Array (Option Value)),
  fd=PySem.W.fnOf x qual (f7 st) (ai st) (ae st) .none kV doc pm an cdv ct∧K.lookup f=some ⟨oc,od, .func fd,osl⟩∧PySem.W.codeIn K cdv qual=true
 kp:PySem.W.keepIn K (.ref f)=true
section
variable {P:Program} {w:World} {K:PySem.W.Frag} {mg:Str→Option Value} {base:Heap}
theorem yc.ok{x qual:Str}{st:Stmt}{f:Addr}{fd:FuncData}{N ps:List Str}{k:Nat}{sp:Sp}(F:yc K x qual st f fd)(S:aY N ps (ae st))(len:∀vs H Q E,sp vs H Q E→vs.length=ps.length)
 (hbody:∀(cdv:Value) (A:Around) (outer:List Env) (s:Shared) (H:Hp) (vs:List V) (Q:VK) (E:XK),eI k (A.deeper (envOfC qual (ae st) s.heap.objs.size f cdv))→sp vs H Q E→
   ∃t,sE (qg qQ P w K mg base N qual (ae st) f cdv A outer s H E).C9 (ai st) t∧t {nx:=fun _ H'=>Q .dk H',rt:=Q} (start N vs) H):hJ P w K mg base qQ (k+1) f fd ps sp:=by
 obtain⟨oc,od,kV,doc,pm,an,cdv,ct,osl,rfl,lk,hcd⟩:=F.ex
 refine G8 lk hcd S len fun A outer s H vs Q E hr hsp=>?_
 obtain⟨t,h,q⟩:=hbody cdv A outer s H vs Q E hr hsp
 exact⟨t,h.C9,q⟩
theorem yc.binds{x qual:Str}{st:Stmt}{f:Addr}{fd:FuncData}{ps:List Str}(F:yc K x qual st f fd)
 (h:∀(kV doc pm:Value) (an:Option Addr) (cdv ct:Value) (us:List Value),us.length=ps.length→bindArgs (PySem.W.fnOf x qual (f7 st) (ai st) (ae st) .none kV doc pm an cdv ct) ⟨us,[]⟩=pure (ps.zip us)):Binds K fd ps []:=by
 obtain⟨oc,od,kV,doc,pm,an,cdv,ct,osl,rfl,lk,hcd⟩:=F.ex
 exact .all (h kV doc pm an cdv ct)
theorem l4{x qual:Str}{st:Stmt}{f:Addr}{oc:Value}{od an:Option Addr}{osl:Array (Option Value)}{kV doc pm cdv ct:Value}(l:K.lookup f=some ⟨oc,od, .func (PySem.W.fnOf x qual (f7 st) (ai st) (ae st) .none kV doc pm an cdv ct),osl⟩)
 (c:PySem.W.codeIn K cdv qual=true) (k:PySem.W.keepIn K (.ref f)=true):yc K x qual st f (PySem.W.fnOf x qual (f7 st) (ai st) (ae st) .none kV doc pm an cdv ct):=⟨⟨oc,od,kV,doc,pm,an,cdv,ct,osl,rfl,l,c⟩,k⟩
end
theorem HR{A:Around}{k:Nat}(hr:eI k A):A.units+1 < cLine:=Nat.lt_of_le_of_lt (Nat.add_le_add_left (by decide:1≤64) _) hr.units
section
variable {X:Cx}
end
theorem zG{A B:Prop}(h:B):if false=true then A else B:=by
 rw[if_neg Bool.false_ne_true]
 exact h
theorem BL{A B:Prop}(h:A):if true=true then A else B:=by
 rw[if_pos rfl]
 exact h
noncomputable def aQ(H H':Hp):Prop:=∀b o,H b=some o→H' b=some o
theorem aQ.refl(H:Hp):aQ H H:=fun _ _ h=>h
theorem aQ.trans{H H1 H2:Hp}(a:aQ H H1)(b:aQ H1 H2):aQ H H2:=fun c o h=>b c o (a c o h)
theorem aQ.free{H H':Hp}(e:aQ H H'){l:Addr}(h:H' l=Option.none):H l=Option.none:=by
 cases q:H l with
 | none=>rfl
 | some o=>
   rw[e l o q] at h
   cases h
section
variable {κ:Type} [DecidableEq κ]
end
end L2
end
section
set_option maxRecDepth 100000
set_option maxHeartbeats 4000000
namespace L2
open PySem PySem.Spec PyProof.Rows
noncomputable def k_(cells:List (Str × Addr)):List (Str × NameKind)→List (Str × Addr)→List (Str × Addr)
 | [],acc=>acc
 | (n,k) ::r,acc=>k_ cells r (if k==NameKind.free then(n,(cells.lookup n).getD 0) ::acc else acc)
theorem jQ{env:Env}:∀(names:List (Str × NameKind)) (acc:List (Str × Addr)),(∀y∈names,y.2= .free→∃c,env.cells.lookup y.1=some c)→
 (forIn names acc fun(x:Str × NameKind) (cs:List (Str × Addr))=>(match x with
   | (name,kind)=>if kind== .free then do let a ←cellOf env name;pure (ForInStep.yield ((name,a) ::cs)) else pure (ForInStep.yield cs):Sem (ForInStep (List (Str × Addr)))))=pure (k_ env.cells names acc)
 | [],acc,_=>by simp [k_]
 | (n,k) ::r,acc,h=>by
   rw[List.forIn_cons]
   by_cases hk:k=NameKind.free
   ·subst hk
    obtain⟨c,hc⟩:=h (n, .free) List.mem_cons_self rfl
    have e:cellOf env n=pure c:=by unfold cellOf;rw [hc]
    simp only[beq_self_eq_true,if_true,e,pure_bind,k_,hc,Option.getD_some]
    exact jQ r _ fun y hy=>h y (List.mem_cons_of_mem _ hy)
   ·have hb:(k==NameKind.free)=false:=by simpa using hk
    simp only[hb,Bool.false_eq_true,if_false,pure_bind,k_]
    exact jQ r _ fun y hy=>h y (List.mem_cons_of_mem _ hy)
theorem j9{env:Env}{scope:Scope}(h:∀y∈scope.names,y.2= .free→∃c,env.cells.lookup y.1=some c):closureFor scope env=pure (k_ env.cells scope.names []):=by
 unfold closureFor
 have:=jQ (env:=env) scope.names [] h
 simp only[bind_pure]
 exact this
theorem i7{cells:List (Str × Addr)}:∀(names:List (Str × NameKind)) (acc:List (Str × Addr)) {x:Str} {c:Addr},(k_ cells names acc).lookup x=some c→
 acc.lookup x=some c∨((x,NameKind.free)∈names∧c=(cells.lookup x).getD 0)
 | [],acc,x,c,h=> .inl h
 | (n,k) ::r,acc,x,c,h=>by
   rcases i7 r _ h with q | ⟨q1,q2⟩
   ·by_cases hk:k=NameKind.free
    ·subst hk
     simp only[beq_self_eq_true,if_true] at q
     cases hx:x==n with
     | true=>
       have e:x=n:=by simpa using hx
       subst e
       rw[List.lookup_cons,hx] at q
       exact .inr ⟨List.mem_cons_self,(Option.some.inj q).symm⟩
     | false=>
       rw[List.lookup_cons,hx] at q
       exact .inl q
    ·have hb:(k==NameKind.free)=false:=by simpa using hk
     simp only[hb,Bool.false_eq_true,if_false] at q
     exact .inl q
   ·exact .inr ⟨List.mem_cons_of_mem _ q1,q2⟩
theorem tZ{cells:List (Str × Addr)}:∀(names:List (Str × NameKind)) (acc:List (Str × Addr)) {x:Str},((x,NameKind.free)∈names∨∃c,acc.lookup x=some c)→∃c,(k_ cells names acc).lookup x=some c
 | [],acc,x,h=>by
   rcases h with h | h
   ·simp at h
   ·exact h
 | (n,k) ::r,acc,x,h=>by
   refine tZ r _ ?_
   rcases h with h | ⟨c,h⟩
   ·rcases List.mem_cons.mp h with e | e
    ·cases e
     exact .inr ⟨(cells.lookup n).getD 0,by simp [List.lookup_cons]⟩
    ·exact .inl e
   ·by_cases hk:k=NameKind.free
    ·subst hk
     simp only[beq_self_eq_true,if_true]
     cases hx:x==n with
     | true=>exact .inr ⟨(cells.lookup n).getD 0,by rw[List.lookup_cons,hx]⟩
     | false=>exact .inr ⟨c,by rw[List.lookup_cons,hx];exact h⟩
    ·have hb:(k==NameKind.free)=false:=by simpa using hk
     simp only[hb,Bool.false_eq_true,if_false]
     exact .inr ⟨c,h⟩
theorem sZ:∀(names:List (Str × NameKind)) (n:Nat) (acc:List (Str × Addr)) {x:Str},(x,NameKind.cell) ∉ names→(cellsFrom n names acc).lookup x=acc.lookup x
 | [],_,_,_,_=>rfl
 | (y,k) ::r,n,acc,x,h=>by
   unfold cellsFrom
   split
   ·rename_i hk
    have hk:k= .cell:=by simpa using hk
    subst hk
    rw[sZ r _ _ fun z=>h (List.mem_cons_of_mem _ z),List.lookup_cons]
    cases hx:x==y with
    | true=>
      have e:x=y:=by simpa using hx
      subst e
      exact absurd List.mem_cons_self h
    | false=>rfl
   ·exact sZ r _ _ fun z=>h (List.mem_cons_of_mem _ z)
theorem lV:∀(names:List (Str × NameKind)) (n:Nat) (acc:List (Str × Addr)),cellsFrom n names acc=cellsFrom n names []++acc
 | [],_,_=>rfl
 | (y,k) ::r,n,acc=>by
   unfold cellsFrom
   split
   ·rw[lV r (n+1) ((y,n) ::acc),lV r (n+1) [(y,n)],List.append_assoc];rfl
   ·exact lV r n acc
theorem vJ{a b:List (Str × Addr)}{x:Str}{c:Addr}(h:(a++b).lookup x=some c):(x,c)∈a∨b.lookup x=some c:=by
 induction a with
 | nil=>exact .inr h
 | cons y r ih=>
   obtain⟨n,v⟩:=y
   rw[List.cons_append,List.lookup_cons] at h
   cases hx:x==n with
   | true=>
     rw[hx] at h
     have e:x=n:=by simpa using hx
     subst e
     cases h
     exact .inl List.mem_cons_self
   | false=>
     rw[hx] at h
     exact(ih h).imp (List.mem_cons_of_mem _) id
theorem ky{a b:List (Str × Addr)}{x:Str}(h:∃c,b.lookup x=some c):∃c,(a++b).lookup x=some c:=by
 induction a with
 | nil=>exact h
 | cons y r ih=>
   rw[List.cons_append,List.lookup_cons]
   cases x==y.1 with
   | true=>exact⟨_,rfl⟩
   | false=>exact ih
theorem sN{a b:List (Str × Addr)}{x:Str}{c:Addr}(h:a.lookup x=some c):∃c,(a++b).lookup x=some c:=by
 induction a with
 | nil=>cases h
 | cons y r ih=>
   rw[List.cons_append,List.lookup_cons]
   rw[List.lookup_cons] at h
   cases hx:x==y.1 with
   | true=>exact⟨_,rfl⟩
   | false=>rw [hx] at h;exact ih h
theorem rq{M:Model}{A:Around}{E:Value→Shared→Prop}{s:Shared}{scope:Scope}{cl:List (Str × Addr)}{qual:Str}{env:Env}{Q:Env→Shared→Prop}(hQ:∀h',h'.Ns s.heap.objs.size (fun _=>none)→(∀b o,s.heap.get? b=some o→h'.get? b=some o)→CellsOk h' (s.heap.objs.size+1) (cellsFrom (s.heap.objs.size+1) scope.names [])→
 Q (newEnv scope s.heap.objs.size env.globals (cellsFrom (s.heap.objs.size+1) scope.names cl) qual none .none (some env) builtinsNs) {s with heap:=h'}) :
 wpAny M A (newFunctionEnv scope env.globals cl [] qual none .none (some env)) Q E s:=by
 simp only[newFunctionEnv,Option.isSome_some,if_true]
 refine wpAny_bind (wpAny_alloc ?_)
 refine wpAny_bind (wpAny_layCells _ (fun name kind cells=>by cases hkc:kind==NameKind.cell <;> simp [hkc]) _ _ _ _ ?_)
 have ok:=cellsFrom_ok scope.names (s.heap.push {cls:= .type "dict",data:= .dict #[]}) (s.heap.objs.size+1) [] ⟨fun _ _ hm=>(nomatch hm),List.Pairwise.nil⟩ (by rw[Heap.size_push];exact Nat.le_refl _)
 rw[Heap.size_push] at ok
 rw[show({s with heap:=s.heap.push {cls:= .type "dict",data:= .dict #[]}}:Shared).heap.objs.size=s.heap.objs.size+1 from Heap.size_push ..]
 rw[List.forIn_nil]
 refine wpAny_bind (wpAny_pure (wpAny_pure ?_))
 exact hQ _ ((Heap.Ns.new s.heap (.type "dict")).keeps (pushCells_keeps _ _)) (fun b o e=>pushCells_keeps _ _ b o (Heap.get?_push_of_some _ e)) ok
noncomputable def bJ(X:Cx)(scope:Scope)(N':List Str)(fp:List Addr)(s:Shared)(H:Hp):Cx where
 prog:=X.prog
 w:=X.w
 K:=X.K
 mg:=X.mg
 base:=X.base
 A:=X.A
 N:=N'
 s₀:=s
 H₀:=H
 env:=compEnvC scope (cellsFrom (s.heap.objs.size+1) scope.names (k_ X.env.cells scope.names [])) s.heap.objs.size X.env
 outer:=X.stack
 stack:=X.stack
 ex:=fp
 fn:=fun x=>scope.names.lookup x==some .cell
 calm:=X.calm
 pn:=[]
 xe:=fun _ _=>False
structure cf (X:Cx) (scope:Scope) (own:List Str) (kp:List Nat) (kn:List Str):Prop where
 kind:scope.kind= .function
 cel:∀y∈scope.names,y.2= .cell→scope.names.lookup y.1=some .cell
 nd:∀y∈scope.names,y.2= .local→scope.names.lookup y.1=some .local
 free:∀y∈scope.names,y.2= .free→X.env.kindOf y.1=some .cell∨X.env.kindOf y.1=some .free
 frl:∀y∈scope.names,y.2= .free→scope.names.lookup y.1=some .free
 names:kn.length=kp.length
 at_:∀(j i:Nat) (x:Str),kp[j]? =some i→kn[j]? =some x→X.N[i]? =some x
 isfree:∀x∈kn,scope.names.lookup x=some .free
noncomputable def dN(own:List Str)(kp:List Nat)(σ:St):St:=List.replicate own.length none++kp.map fun i=>(σ[i]?).getD none
section
variable {X:Cx} {scope:Scope} {own:List Str} {kp:List Nat} {kn:List Str}
theorem eQ{env:Env}:∀{names:List (Str × NameKind)} {x:Str} {k:NameKind},
 (names.map fun(n,k)=>if(k==NameKind.free && env.scope.kind== .function && env.kindOf n==some .cell) then(n,NameKind.cell) else(n,k)).lookup x=some k→
 names.lookup x=some k∨(k= .cell∧names.lookup x=some .free)
 | [],_,_,h=>by simp at h
 | (n,k) ::r,x,k',h=>by
   have ih:=@eQ env r x k'
   have h:List.lookup x ((if(k==NameKind.free && env.scope.kind== .function && env.kindOf n==some .cell)=true then(n,NameKind.cell) else(n,k)) ::_)=some k':=h
   by_cases hc:(k==NameKind.free && env.scope.kind== .function && env.kindOf n==some .cell)=true
   ·rw[if_pos hc] at h
    have hkf:k= .free:=by
     simp only[Bool.and_eq_true,beq_iff_eq] at hc
     exact hc.1.1
    cases hx:x==n with
    | true=>
      rw[List.lookup_cons,hx] at h
      cases h
      exact .inr ⟨rfl,by rw[List.lookup_cons,hx,hkf]⟩
    | false=>
      rw[List.lookup_cons,hx] at h
      rw[List.lookup_cons,hx]
      exact ih h
   ·rw[if_neg hc] at h
    cases hx:x==n with
    | true=>
      rw[List.lookup_cons,hx] at h
      rw[List.lookup_cons,hx]
      exact .inl h
    | false=>
      rw[List.lookup_cons,hx] at h
      rw[List.lookup_cons,hx]
      exact ih h
theorem l8{pins:List (Addr × Obj)}{σ:St}{H:Hp}{s:Shared}(C:cf X scope own kp kn)(I:Inv X pins σ H s):∀y∈scope.names,y.2= .free→∃c,X.env.cells.lookup y.1=some c:=fun y hy hf=>
 I.ok.has y.1 (C.free y hy hf)
theorem zU{pins:List (Addr × Obj)}{σ:St}{H:Hp}{s:Shared}{fp:List Addr}{h₁:Heap}{tk:Nat}(C:cf X scope own kp kn)(I:Inv X pins σ H s)(hf:∀b∈fp,oP X pins H b)(hb:∀b∈fp,b < s.heap.objs.size)
 (hn:h₁.Ns s.heap.objs.size (fun _=>none)) (hk:∀b o,s.heap.get? b=some o→h₁.get? b=some o) (hC:CellsOk h₁ (s.heap.objs.size+1) (cellsFrom (s.heap.objs.size+1) scope.names [])):Inv (bJ X scope (own++kn) fp s H) [] (dN own kp σ) H {s with heap:=h₁,toks:=tk}:=by
 have cl:∀x c,(k_ X.env.cells scope.names []).lookup x=some c→X.env.cells.lookup x=some c:=fun x c e=>by
  rcases i7 scope.names [] e with q | ⟨q1,q2⟩
  ·simp at q
  ·obtain⟨c',hc'⟩:=l8 C I (x, .free) q1 rfl
   have hc':X.env.cells.lookup x=some c':=hc'
   rw[hc'] at q2
   rw[hc',q2]
   rfl
 have clA:∀x c,(cellsFrom (s.heap.objs.size+1) scope.names (k_ X.env.cells scope.names [])).lookup x=some c→(x,c)∈cellsFrom (s.heap.objs.size+1) scope.names []∨(k_ X.env.cells scope.names []).lookup x=some c:=fun x c e=>by
  rw[lV] at e
  exact vJ e
 have old:∀x c,(k_ X.env.cells scope.names []).lookup x=some c→c < s.heap.objs.size:=fun x c e=>by
  obtain⟨v,h⟩:=I.cell x c (cl x c e)
  exact h.lt
 have new:∀x c,(x,c)∈cellsFrom (s.heap.objs.size+1) scope.names []→s.heap.objs.size≤c:=fun x c e=>Nat.le_of_lt (hC.empty x c e).2
 have clh:∀x,scope.names.lookup x=some .free→∃c,(k_ X.env.cells scope.names []).lookup x=some c:=fun x hx=>tZ scope.names [] (.inl (PySem.mem_of_lookup hx))
 refine⟨⟨I.ok.mod,C.kind,I.ok.glob,I.ok.blt,Nat.le_refl _,fun x y c h1 h2=>?inj,fun x hx=>?_,fun x c hn h=>?cab,I.ok.hd,I.ok.frames, .inl rfl,fun b hb'=>⟨Nat.ne_of_lt (hb b hb'),fun x c e z=>?exf⟩,
  fun b o e=>I.bs b o e,Nat.le_trans I.ok.bsz I.sz,fun b o e hb'=>?_,fun b hb' hs=>?_,I.stack,I.xy⟩,
  rfl,I.bare,Un.kept hk,⟨_,hn,fun i x v h1 h2 h3=>?_⟩,fun x c e=>?_,I.hok.fresh (Nat.le_refl _),fun x c e=>?frc,fun p hp=>(by cases hp),I.hok.kept hk,?_⟩
 case inj=>
  rcases clA x c h1 with a | a <;> rcases clA y c h2 with b | b
  ·exact name_of_addr hC.apart a b
  ·exact absurd (Nat.lt_of_lt_of_le (old y c b) (new x c a)) (Nat.lt_irrefl _)
  ·exact absurd (Nat.lt_of_lt_of_le (old x c a) (new y c b)) (Nat.lt_irrefl _)
  ·exact I.ok.inj x y c (cl x c a) (cl y c b)
 case cab=>
  have hn:(scope.names.lookup x==some .cell)=true:=hn
  rcases clA x c h with a | a
  ·exact new x c a
  ·rcases i7 scope.names [] a with q | ⟨q1,q2⟩
   ·simp at q
   ·have hx:scope.names.lookup x=some .cell:=by simpa using hn
    have h7:scope.names.lookup x=some .free:=C.frl _ q1 rfl
    rw[hx] at h7;cases h7
 case exf=>
  rcases clA x c e with a | a
  ·subst z;exact absurd (Nat.lt_of_lt_of_le (hb _ hb') (new x _ a)) (Nat.lt_irrefl _)
  ·exact(hf b hb').2.2.2.2.1 x c (cl x c a) z
 case frc=>
  rcases clA x c e with a | a
  ·exact I.hok.fresh (new x c a)
  ·exact I.freeC x c (cl x c a)
 ·have hx:(relabel scope X.env).names.lookup x=some .cell∨(relabel scope X.env).names.lookup x=some .free:=hx
  show ∃c,(cellsFrom (s.heap.objs.size+1) scope.names (k_ X.env.cells scope.names [])).lookup x=some c
  rcases hx with hx | hx
  ·rcases eQ hx with q | ⟨_,q⟩
   ·rw[lV];obtain⟨c,hc⟩:=qx (n:=s.heap.objs.size+1) q;exact sN hc
   ·rw[lV];exact ky (clh x q)
  ·rcases eQ hx with q | ⟨q,_⟩
   ·rw[lV];exact ky (clh x q)
   ·cases q
 ·rcases(hf b hb').2.2.2.1 with z | z
  ·exact I.ok.noex b o e z
  ·exact absurd (Nat.lt_of_lt_of_le (Heap.lt_size (I.ok.bs b o e).1) z) (Nat.lt_irrefl _)
 ·rcases List.mem_cons.mp (I.vR b hs) with z | z
  ·exact(hf b hb').2.1 z
  ·exact(hf b hb').2.2.1 z
 ·-- a kept name
  have h1:(own++kn)[i]? =some x:=h1
  have h2:(dN own kp σ)[i]? =some (some v):=h2
  unfold dN at h2
  by_cases hi:i < own.length
  ·rw[List.getElem?_append_left (by simpa using hi),List.getElem?_replicate] at h2
   split at h2 <;> cases h2
  ·rw[List.getElem?_append_right (by simpa using hi),List.length_replicate,List.getElem?_map] at h2
   rw[List.getElem?_append_right (by simpa using hi)] at h1
   cases e:kp[i - own.length]? with
   | none=>rw [e] at h2;cases h2
   | some j=>
     rw[e] at h2
     have h2:(σ[j]?).getD none=some v:=Option.some.inj h2
     have hj:X.N[j]? =some x:=C.at_ _ j x e h1
     have hσ:σ[j]? =some (some v):=by
      cases q:σ[j]? with
      | none=>rw [q] at h2;cases h2
      | some y=>rw [q] at h2;exact congrArg some h2
     have hfree:scope.names.lookup x=some .free:=C.isfree x (List.mem_of_getElem? h1)
     have hkind:=C.free (x, .free) (PySem.mem_of_lookup hfree) rfl
     obtain⟨m,hm,hl⟩:=I.loc
     obtain⟨u,r,l⟩:=hl j x v hj hσ (hkind.elim (fun q=>Or.inr (Or.inl q)) fun q=>Or.inr (Or.inr q))
     refine⟨u,r, .inr ⟨?_,?_⟩⟩
     ·have h3:(relabel scope X.env).names.lookup x=some .local∨(relabel scope X.env).names.lookup x=some .cell∨(relabel scope X.env).names.lookup x=some .free:=h3
      rcases h3 with q | q | q
      ·rcases eQ q with z | ⟨z,_⟩
       ·rw[hfree] at z;cases z
       ·cases z
      ·exact .inl q
      ·exact .inr q
     ·rcases l with⟨k,_⟩ | ⟨_,c,hc,hcell⟩
      ·rcases hkind with q | q
       ·rw[show X.env.kindOf x=some .cell from q] at k;cases k
       ·rw[show X.env.kindOf x=some .free from q] at k;cases k
      ·obtain⟨c',hc'⟩:=clh x hfree
       have:=cl x c' hc'
       rw[hc] at this
       cases this
       obtain⟨o,ho,hd⟩:=hcell
       exact⟨c,(sZ _ _ _ fun z=>by have:=C.cel _ z rfl;rw [hfree] at this;cases this).trans hc',o,hk c o ho,hd⟩
 ·rcases clA x c e with a | a
  ·exact⟨_,(hC.empty x c a).1⟩
  obtain⟨v,o,ho,hd⟩:=I.cell x c (cl x c a)
  exact⟨v,o,hk c o ho,hd⟩
 ·show(dN own kp σ).length=(own++kn).length
  unfold dN
  rw[List.length_append,List.length_replicate,List.length_map,List.length_append,C.names]
theorem pz{pins:List (Addr × Obj)}{σ σ':St}{H H':Hp}{s s':Shared}{fp:List Addr}{N':List Str}(I:Inv X pins σ H s)(hf:∀b∈fp,oP X pins H b)(J:Inv (bJ X scope N' fp s H) [] σ' H' s'):Inv X pins σ H' s':=
 I.Hm (ch:=fp) J.os J.base J.hok J.bare fun b hb=>⟨(hf b hb).2.2.2.1,(hf b hb).2.1,(hf b hb).2.2.2.2.1,(hf b hb).2.2.2.2.2⟩
end
noncomputable def nM(X:Cx)(ifs:List Expr)(t:TT):Prop:=
 ∀(pins:List (Addr × Obj)) (s:Shared) (σ:St) (H:Hp) (Q:Bool→Hp→Prop),Inv X pins σ H s→t σ H Q→
  wpAny (model X.prog X.w) X.A (forIn ifs true fun c r=>if r=true then do let ok ←isTrue c X.env (eval c X.env);pure (ForInStep.yield ok) else pure (ForInStep.yield r)) (TP X pins σ Q) X.xe s
noncomputable def IZ:TT:=fun _ H Q=>Q true H
theorem uc{X:Cx}:nM X [] IZ:=fun _ _ _ H _ I h=>wpAny_tests_nil ⟨H,I,h⟩
theorem uh{X:Cx}{c:Expr}{t:TT}(h:PT X c t):nM X [c] t:=fun pins s σ H Q I hq=>wpAny_tests_one (h pins s σ H Q I hq)
noncomputable def xg(wi:TI)(g:TG)(tc:TT)(te:TE)(own:List Str)(kp:List Nat):TE:=fun σ H Q=>wi σ H fun J H1=>∀D,H1 D=none→
 ∃W:Nat→Nat→List V→Hp→Prop,(∃m,W 0 m [] (upd H1 D (.lst [])))∧∀i m ys H,W i m ys H→
  (J.stop i H∧Q (.ref D) H)∨(J.go i H∧∀x H',J.yld i H x H'→g x (dN own kp σ) H' fun σ2 H2=>tc σ2 H2 fun c H3=>
    if c=true then te σ2 H3 fun y H4=>H4 D=some (.lst ys)∧ys.length < sizeLine∧∃m',m' < m∧W (i+1) m' (ys++[y]) (upd H4 D (.lst (ys++[y])))
    else ∃m',m' < m∧W (i+1) m' ys H3)
section
variable {X:Cx} {scope:Scope} {own:List Str} {kp:List Nat} {kn:List Str} {tg iter elt:Expr} {ifs:List Expr} {wi:TI} {g:TG} {tc:TT} {te:TE} {pos:Pos}
theorem ue{pins:List (Addr × Obj)}{σ:St}{H:Hp}{s:Shared}{fp:List Addr}{it D:Addr}{tn:Nat→Heap→Prop}{J:It}{Q:VK}{h₁:Heap}{tk:Nat}{R:Result→Shared→Prop}
 (hc:X.calm=true) (C:cf X scope own kp kn) (I:Inv X pins σ H s) (hf:∀b∈fp,oP X pins H b) (hb:∀b∈fp,b < s.heap.objs.size) (T:Turn X.prog X.w X.K tg J fp it tn)
 (hg:PG (bJ X scope (own++kn) fp s H) tg g) (hi:nM (bJ X scope (own++kn) fp s H) ifs tc) (he:PE (bJ X scope (own++kn) fp s H) elt te)
 (hn:h₁.Ns s.heap.objs.size (fun _=>none)) (hk:∀b o,s.heap.get? b=some o→h₁.get? b=some o) (hC:CellsOk h₁ (s.heap.objs.size+1) (cellsFrom (s.heap.objs.size+1) scope.names [])) (st:tn 0 s.heap)
 (W:Nat→Nat→List V→Hp→Prop) (w0:∃m,W 0 m [] H)
 (turn:∀i m ys H,W i m ys H→
   (J.stop i H∧Q (.ref D) H)∨(J.go i H∧∀x H',J.yld i H x H'→g x (dN own kp σ) H' fun σ2 H2=>tc σ2 H2 fun c H3=>
     if c=true then te σ2 H3 fun y H4=>H4 D=some (.lst ys)∧ys.length < sizeLine∧∃m',m' < m∧W (i+1) m' (ys++[y]) (upd H4 D (.lst (ys++[y])))
     else ∃m',m' < m∧W (i+1) m' ys H3))
 (hR:∀H' s' σ',Inv (bJ X scope (own++kn) fp s H) [] σ' H' s'→Q (.ref D) H'→R (.ok .next) s') :
 codeAny (model X.prog X.w) X.A (.compStart (.ListComp elt [⟨tg,iter,ifs,0⟩] scope pos) 0 (.ref it) (.ref D) (bJ X scope (own++kn) fp s H).env) R {s with heap:=h₁,toks:=tk}:=by
 have I1:Inv (bJ X scope (own++kn) fp s H) [] (dN own kp σ) H {s with heap:=h₁,toks:=tk}:=zU C I hf hb hn hk hC
 have st1:tn 0 h₁:=T.keep _ _ _ st fun b _ o e=>hk b o e
 have fp1:∀{H':Hp} {p:List (Addr × Obj)},(∀b∈fp,H' b=none)→(∀b∈fp,∀q∈p,q.1≠b)→∀b∈fp,oP (bJ X scope (own++kn) fp s H) p H' b:=fun {H' p} hn hp b hb'=>
  ⟨hn b hb',(I1.ok.exf b hb').1,I1.ok.exfs b hb', .inl hb',fun x c e=>(I1.ok.exf b hb').2 x c e,fun q hq=>hp b hb' q hq⟩
 obtain⟨m0,w0⟩:=w0
 have loop:codeAny (model X.prog X.w) X.A (.compLoop (.ListComp elt [⟨tg,iter,ifs,0⟩] scope pos) 0 (.ref it) (.ref D) (bJ X scope (own++kn) fp s H).env) R {s with heap:=h₁,toks:=tk}:=by
  refine codeAny_loop rfl (fun n s'=>∃i ys H',Inv (bJ X scope (own++kn) fp s H) [] (dN own kp σ) H' s'∧tn i s'.heap∧(∀b∈fp,H' b=none)∧W i n ys H') (fun n s' hI=>?_) m0 ⟨0,[],H,I1,st1,fun b hb'=>(hf b hb').1,w0⟩
  obtain⟨i,ys,H3,I3,st3,fr3,w3⟩:=hI
  show wpAny _ _ ((compTurn (.ListComp elt [⟨tg,iter,ifs,0⟩] scope pos) 0 (.ref it) (.ref D) (bJ X scope (own++kn) fp s H).env).onRaise (fun x=>do noteFrame x (bJ X scope (own++kn) fp s H).env;theTreesLotGoes x)) _ _ s'
  refine wpAny_noted (wpAny_noRaise ?_)
  rw[compTurn_list]
  refine wpAny_bind (wpAny_standAt (wpAny_bind ?_))
  rcases turn i n ys H3 w3 with⟨stop,q⟩ | ⟨go,step⟩
  ·refine d5 (T.done (bJ X scope (own++kn) fp s H) rfl rfl rfl hc i [] s' _ H3 _ I3 (fp1 fr3 (fun _ _ q hq=>by cases hq)) st3 stop) fun r s4 ⟨hr,I4⟩=>?_
   subst hr
   exact wpAny_pure (hR H3 s4 _ I4 q)
  ·refine d5 (T.item (bJ X scope (own++kn) fp s H) rfl rfl rfl hc i [] s' _ H3 _ I3 (fp1 fr3 (fun _ _ q hq=>by cases hq)) st3 go) fun r s4 ⟨u,hr,h4⟩=>?_
   subst hr
   refine wpAny_bind (d5 h4 fun _ s5 ⟨x,H5,I5,r5,y5,st5,fr5⟩=>?_)
   have I5':=I5.pinned (fp1 fr5 (fun _ _ q hq=>by cases hq)) (T.obj _ _ st5)
   have keepIt:∀{σ7:St} {H7:Hp} {s7:Shared},Inv (bJ X scope (own++kn) fp s H) ([]++lY fp s5.heap) σ7 H7 s7→tn (i+1) s7.heap∧∀b∈fp,H7 b=none:=fun {σ7 H7 s7} I7=>by
    refine⟨T.keep _ _ _ st5 fun b hb o e=>(I7.pin (b,o) (List.mem_append_right _ (List.mem_append_right _ (jR hb e)))).1,fun b hb=>?_⟩
    obtain⟨o,e,d⟩:=T.obj _ _ st5 b hb
    exact(I7.pin (b,o) (List.mem_append_right _ (List.mem_append_right _ (jR hb e)))).2.1
   have reset:∀{σ7:St} {H7:Hp} {s7:Shared},Inv (bJ X scope (own++kn) fp s H) ([]++lY fp s5.heap) σ7 H7 s7→Inv (bJ X scope (own++kn) fp s H) [] (dN own kp σ) H7 s7:=fun {σ7 H7 s7} I7=>by
    have I8:=I7.mP
    have hun:Un (zq X.stack) fp H H7 s.heap s7.heap:=I8.base
    have I9:Inv X pins σ H7 s7:=pz I hf I8
    refine⟨I8.ok,I8.os,I8.bare,I8.base,?_,I8.cell,I8.free,I8.freeC,I8.pin,I8.hok,I1.len⟩
    obtain⟨m,hm,_⟩:=I8.loc
    refine⟨m,hm,fun i x v h1 h2 h3=>?_⟩
    obtain⟨m1,hm1,hl1⟩:=I1.loc
    obtain⟨u1,r1,l1⟩:=hl1 i x v h1 h2 h3
    have h1:(own++kn)[i]? =some x:=h1
    have h2:(dN own kp σ)[i]? =some (some v):=h2
    unfold dN at h2
    by_cases hi:i < own.length
    ·rw[List.getElem?_append_left (by simpa using hi),List.getElem?_replicate] at h2
     split at h2 <;> cases h2
    ·rw[List.getElem?_append_right (by simpa using hi),List.length_replicate,List.getElem?_map] at h2
     rw[List.getElem?_append_right (by simpa using hi)] at h1
     cases e:kp[i - own.length]? with
     | none=>rw [e] at h2;cases h2
     | some j=>
       rw[e] at h2
       have h2:(σ[j]?).getD none=some v:=Option.some.inj h2
       have hj:X.N[j]? =some x:=C.at_ _ j x e h1
       have hσ:σ[j]? =some (some v):=by
        cases q:σ[j]? with
        | none=>rw [q] at h2;cases h2
        | some y=>rw [q] at h2;exact congrArg some h2
       have hfree:scope.names.lookup x=some .free:=C.isfree x (List.mem_of_getElem? h1)
       have hkind:=C.free (x, .free) (PySem.mem_of_lookup hfree) rfl
       obtain⟨m9,hm9,hl9⟩:=I9.loc
       obtain⟨u,r,l⟩:=hl9 j x v hj hσ (hkind.elim (fun q=>Or.inr (Or.inl q)) fun q=>Or.inr (Or.inr q))
       refine⟨u,r, .inr ?_⟩
       rcases l1 with⟨k,k2⟩ | ⟨k,c,hc,hcell⟩
       ·have k:(relabel scope X.env).names.lookup x=some .local:=k
        rcases eQ k with z | ⟨z,_⟩
        ·rw[hfree] at z;cases z
        ·cases z
       ·refine⟨k,c,hc,?_⟩
        rcases l with⟨k',_⟩ | ⟨_,c',hc',hcell'⟩
        ·rcases hkind with q | q
         ·rw[show X.env.kindOf x=some .cell from q] at k';cases k'
         ·rw[show X.env.kindOf x=some .free from q] at k';cases k'
        ·have hcl:(k_ X.env.cells scope.names []).lookup x=some c:=(sZ _ _ _ fun z=>by have:=C.cel _ z rfl;rw [hfree] at this;cases this).symm.trans hc
         rcases i7 scope.names [] hcl with q | ⟨q1,q2⟩
         ·simp at q
         ·rw[hc'] at q2
          have q2:c=c':=q2
          rw[q2]
          exact hcell'
   have hmm:=hg ([]++lY fp s5.heap) s5 (dN own kp σ) H5 x u _ I5' r5 (step x H5 y5)
   refine wpAny_bind (d5 hmm fun _ s6 ⟨σ6,H6,I6,q6⟩=>?_)
   refine wpAny_bind (d5 (hi _ s6 σ6 H6 _ I6 q6) fun ok s7 ⟨H7,I7,q7⟩=>?_)
   cases ok with
   | false=>
     simp only[Bool.false_eq_true,if_false] at q7 ⊢
     obtain⟨m',hm',w7⟩:=q7
     obtain⟨a1,a2⟩:=keepIt I7
     exact wpAny_pure ⟨rfl,m',hm',i+1,ys,H7,reset I7,a1,a2,w7⟩
   | true=>
     simp only[if_true] at q7 ⊢
     refine wpAny_bind (wpAny_bind (d5 (he _ s7 σ6 H7 _ I7 q7) fun yv s8 ⟨y,H8,I8,r8,hD,hlt,m',hm',w8⟩=>wpAny_bind ?_))
     obtain⟨a1,a2⟩:=keepIt I8
     refine d5 (nj _ s8 σ6 H8 (.ref D) [y] (.ref D) [yv] (fun v H9=>v= .dk∧H9=upd H8 D (.lst (ys++[y]))) I8 rfl (.cons r8 .nil) ⟨D,ys,y,rfl,rfl,hD,hlt,rfl,rfl⟩) fun _ s9 ⟨v9,H9,I9,_,_,e9⟩=>?_
     subst e9
     obtain⟨b1,b2⟩:=keepIt I9
     exact wpAny_pure (wpAny_pure ⟨rfl,m',hm',i+1,ys++[y],_,reset I9,b1,b2,w8⟩)
 exact codeAny_compStart_list loop (T.self _ _ _ _ _ st1 loop)
theorem xf(hc:X.calm=true)(C:cf X scope own kp kn)(hi:PI X tg iter wi)(hg:∀fp s H,PG (bJ X scope (own++kn) fp s H) tg g)(hif:∀fp s H,nM (bJ X scope (own++kn) fp s H) ifs tc)
 (he:∀fp s H,PE (bJ X scope (own++kn) fp s H) elt te) (hs:∀x,foldedSetIterable iter X.env x=pure x:=by intro _;rfl):PE X (.ListComp elt [⟨tg,iter,ifs,0⟩] scope pos) (xg wi g tc te own kp):=by
 intro pins s σ H Q I h
 rw[eval_ListComp]
 refine wpAny_comprehension_free (use:=none) rfl hs (j9 (l8 C I)) C.kind C.nd (d5 (hi pins s σ H _ I h) fun v s1 h1=>d5 h1 fun itv s2 h2=>?_)
 obtain⟨it,fp,tn,J,H2,e,I2,T,st2,f2,q⟩:=h2
 subst e
 refine wpAny_newObj_type ?_
 have I3:Inv X pins σ (upd H2 s2.heap.objs.size (.lst [])) {s2 with heap:=s2.heap.push {cls:= .type "list",dict:=none,data:= .seq ([]:List Value).toArray}}:=I2.Et (its:=[]) (t':=s2.toks) .nil (Nat.zero_le _)
 obtain⟨W,w0,turn⟩:=q s2.heap.objs.size I2.fresh
 have fne:∀b∈fp,b < s2.heap.objs.size:=fun b hb=>let⟨o,e,_⟩:=T.obj _ _ st2 b hb;Heap.lt_size e
 have f3:∀b∈fp,oP X pins (upd H2 s2.heap.objs.size (.lst [])) b:=fun b hb=>⟨by rw[ba (Nat.ne_of_lt (fne b hb))];exact(f2 b hb).1,(f2 b hb).2⟩
 generalize hs3:({s2 with heap:=s2.heap.push {cls:= .type "list",dict:=none,data:= .seq ([]:List Value).toArray}}:Shared)=s3 at I3 ⊢
 have st3:tn 0 s3.heap:=by rw[←hs3];exact T.keep _ _ _ st2 fun b _ o e=>Heap.get?_push_of_some _ e
 have fne3:∀b∈fp,b < s3.heap.objs.size:=fun b hb=>by rw[←hs3];exact Nat.lt_of_lt_of_le (fne b hb) (by rw[Heap.size_push];exact Nat.le_succ _)
 refine rq fun h₁ hns₁ hk hC=>?_
 refine ue (D:=s2.heap.objs.size) hc C I3 f3 fne3 T (hg fp s3 _) (hif fp s3 _) (he fp s3 _) hns₁ hk hC st3 W w0 turn fun H' s' σ' J' hq=>?_
 have B:=pz I3 f3 J'
 obtain⟨m',hm',_⟩:=J'.loc
 refine⟨m',hm',fun h' sb=>⟨.ref s2.heap.objs.size,H',?_,rfl,hq⟩⟩
 have fC:=I3.qF (H':=H') (b:=s3.heap.objs.size) (Nat.le_refl _) J'.free
 exact B.turned (it:=s3.heap.objs.size) (t':=s'.toks) (fun b o hb e=>(sb.2 b hb).trans e) fC.1 fC.2.1 fC.2.2.2.1 fC.2.2.2.2.1 fC.2.2.2.2.2
theorem wL{i:Nat}{x:Str}{pos' spos:Pos}(hc:X.calm=true)(hN:X.N.Nodup)(hx:X.N[i]? =some x)(hxl:X.env.scope.names.lookup x=some .local)(C:cf X scope own kp kn)(hi:PI X tg iter wi)
 (hg:∀fp s H,PG (bJ X scope (own++kn) fp s H) tg g) (hif:∀fp s H,nM (bJ X scope (own++kn) fp s H) ifs tc)
 (he:∀fp s H,PE (bJ X scope (own++kn) fp s H) elt te)
 (hsw:swapsWith (.ListComp elt [⟨tg,iter,ifs,0⟩] scope pos) (some (.Name x pos')) spos.line X.env=pure true:=by rfl)
 (hs:∀x,foldedSetIterable iter X.env x=pure x:=by intro _;rfl) :
 PS X (.Assign [.Name x pos'] (.ListComp elt [⟨tg,iter,ifs,0⟩] scope pos) spos) (yI (xg wi g tc te own kp) (p7 i)):=by
 intro pins s σ H D I h
 rw[exec_Assign_Name_used _ _ _ _ hsw]
 refine wpAny_bind (wpAny_standAt (wpAny_bind ?_))
 show wpAny _ X.A (do let _ ←comprehension (.ListComp elt [⟨tg,iter,ifs,0⟩] scope pos) scope X.env _ (newList []) false (eval iter X.env) (some (assign (.Name x pos') X.env))) _ _ s
 refine wpAny_bind (wpAny_mono (wpAny_comprehension_free (use:=some (assign (.Name x pos') X.env)) (Q:=fun _ s'=>SP X pins D .next s') rfl hs (j9 (l8 C I)) C.kind C.nd
  (d5 (hi pins s σ H _ I h) fun v s1 h1=>d5 h1 fun itv s2 h2=>?_)) (fun _ s' hq=>wpAny_pure (wpAny_pure hq)) fun _ _ e=>e)
 obtain⟨it,fp,tn,J,H2,e,I2,T,st2,f2,q⟩:=h2
 subst e
 refine wpAny_newObj_type ?_
 have I3:Inv X pins σ (upd H2 s2.heap.objs.size (.lst [])) {s2 with heap:=s2.heap.push {cls:= .type "list",dict:=none,data:= .seq ([]:List Value).toArray}}:=I2.Et (its:=[]) (t':=s2.toks) .nil (Nat.zero_le _)
 obtain⟨W,w0,turn⟩:=q s2.heap.objs.size I2.fresh
 have fne:∀b∈fp,b < s2.heap.objs.size:=fun b hb=>let⟨o,e,_⟩:=T.obj _ _ st2 b hb;Heap.lt_size e
 have f3:∀b∈fp,oP X pins (upd H2 s2.heap.objs.size (.lst [])) b:=fun b hb=>⟨by rw[ba (Nat.ne_of_lt (fne b hb))];exact(f2 b hb).1,(f2 b hb).2⟩
 generalize hs3:({s2 with heap:=s2.heap.push {cls:= .type "list",dict:=none,data:= .seq ([]:List Value).toArray}}:Shared)=s3 at I3 ⊢
 have st3:tn 0 s3.heap:=by rw[←hs3];exact T.keep _ _ _ st2 fun b _ o e=>Heap.get?_push_of_some _ e
 have fne3:∀b∈fp,b < s3.heap.objs.size:=fun b hb=>by rw[←hs3];exact Nat.lt_of_lt_of_le (fne b hb) (by rw[Heap.size_push];exact Nat.le_succ _)
 refine rq fun h₁ hns₁ hk hC=>?_
 refine ue (Q:=fun x H1=>p7 i x σ H1 D.nx) (D:=s2.heap.objs.size) hc C I3 f3 fne3 T (hg fp s3 _) (hif fp s3 _) (he fp s3 _) hns₁ hk hC st3 W w0 turn fun H' s' σ' J' hq=>?_
 have B:=pz I3 f3 J'
 obtain⟨m',hm',_⟩:=J'.loc
 have fC:=I3.qF (H':=H') (b:=s3.heap.objs.size) (Nat.le_refl _) J'.free
 show wpAny _ X.A (assign (.Name x pos') X.env (.ref s2.heap.objs.size)) _ _ s'
 refine wpAny_assign_Name (qU B hN hx (.inl hxl) (v:= .ref s2.heap.objs.size) rfl (fun s4 I4 ⟨a,sb,ha⟩=>?_) (.inr hxl))
 have ha':s3.heap.objs.size≠a:=by
  rcases ha with rfl | z
  ·exact fC.2.1
  ·exact fun e=>fC.2.2.2.2.1 x a z e.symm
 refine⟨m',hm'.sameBut sb ha',fun h' sb'=>⟨_,H',?_,hq⟩⟩
 exact I4.turned (it:=s3.heap.objs.size) (t':=s4.toks) (fun b o hb e=>(sb'.2 b hb).trans e) fC.1 fC.2.1 fC.2.2.2.1 fC.2.2.2.2.1 fC.2.2.2.2.2
end
end L2
end
section
set_option maxRecDepth 100000
set_option maxHeartbeats 4000000
namespace L2
open PySem PySem.Spec PyProof.Rows
inductive D where
 | dk | bl (b:Bool) | int (i:Int) | str (x:Str) | lst (ds:List D) | tup (ds:List D) | dct (ks:List Key) (ds:List D)
inductive R (α:Type) where
 | ok (a:α) | ex (c:Nat) | no
noncomputable def R.bind{α β:Type}:R α→(α→R β)→R β
 | .ok a,f=>f a
 | .ex c,_=> .ex c
 | .no,_=> .no
theorem R.ak{α β:Type}{r:R α}{f:α→R β}{b:β}(h:r.bind f= .ok b):∃a,r= .ok a∧f a= .ok b:=by
 cases r with
 | ok a=>exact⟨a,rfl,h⟩
 | ex c=>cases h
 | no=>cases h
@[simp] theorem R.aH{α β:Type}(a:α)(f:α→R β):(R.ok a).bind f=f a:=rfl
noncomputable def R.bC{α:Type}(c:Bool)(r:R α):R α:=if c then r else .no
theorem R.bj{α:Type}{c:Bool}{r:R α}{a:α}(h:R.bC c r= .ok a):c=true∧r= .ok a:=by
 cases c with
 | true=>exact⟨rfl,h⟩
 | false=>cases h
@[simp] theorem R.fV{α:Type}(r:R α):R.bC true r=r:=rfl
noncomputable def qN(K:PySem.W.Frag)(B:List Addr)(H:Hp)(a:Addr)(xs:List V):Prop:=
 (a ∉ B∧Rd H a (.lst xs))∨∃(its:List Value) (n:Nat),K.lookup a=some {cls:= .type "list",data:= .seq its.toArray n}∧xs.length≤sizeLine∧Vals xs its
noncomputable def rf(K:PySem.W.Frag)(B:List Addr)(H:Hp)(a:Addr)(xs:List V):Prop:=
 (a ∉ B∧Rd H a (.tup xs))∨∃(o:Obj) (its:Array Value) (n:Nat),K.lookup a=some o∧o.cls= .type "tuple"∧o.data= .seq its n∧its.size≤sizeLine∧Vals xs its.toList
theorem qN.sq{K:PySem.W.Frag}{B:List Addr}{H:Hp}{a:Addr}{xs:List V}(h:qN K B H a xs):mD K H a xs:=by
 rcases h with z | ⟨its,n,hk,hz,r⟩
 ·exact .inl z.2
 ·exact .inr ⟨_,its.toArray,n,hk,rfl,rfl,rfl,by rw[List.size_toArray,←r.length];exact hz,by simpa using r⟩
theorem rf.sq{K:PySem.W.Frag}{B:List Addr}{H:Hp}{a:Addr}{xs:List V}(h:rf K B H a xs):oO K H a xs:=h.elim (fun z=> .inl z.2) .inr
mutual
noncomputable def Rep(K:PySem.W.Frag)(B:List Addr)(H:Hp):D→V→Prop
 | .dk,v=>v= .dk
 | .bl b,v=>v= .bl b
 | .int i,v=>v= .int i
 | .str x,v=>v= .str x
 | .lst ds,v=>∃a xs,v= .ref a∧qN K B H a xs∧aF K B H ds xs
 | .tup ds,v=>∃a xs,v= .ref a∧rf K B H a xs∧aF K B H ds xs
 | .dct ks ds,v=>∃(a:Addr) (kvs:List (Key × V)),v= .ref a∧(a ∉ B∧H a=some (.dK kvs))∧kvs.map (·.1)=ks∧aF K B H ds (kvs.map (·.2))
noncomputable def aF(K:PySem.W.Frag)(B:List Addr)(H:Hp):List D→List V→Prop
 | [],xs=>xs=[]
 | d ::ds,xs=>∃x r,xs=x ::r∧Rep K B H d x∧aF K B H ds r
end
noncomputable def dM(B:List Addr)(H:Hp)(B':List Addr)(H':Hp):Prop:=∀b o,H b=some o→b ∉ B→H' b=some o∧b ∉ B'
theorem dM.rd{B B':List Addr}{H H':Hp}(p:dM B H B' H'){a:Addr}{u:HO}(h:Rd H a u)(n:a ∉ B):Rd H' a u∧a ∉ B':=by
 rcases h with e | ⟨o,e⟩
 ·exact⟨.inl (p a _ e n).1,(p a _ e n).2⟩
 ·exact⟨.inr ⟨o,(p a _ e n).1⟩,(p a _ e n).2⟩
theorem dM.trans{B B' B'':List Addr}{H H' H'':Hp}(p:dM B H B' H')(q:dM B' H' B'' H''):dM B H B'' H'':=fun b o e n=>
 let⟨e1,n1⟩:=p b o e n;q b o e1 n1
theorem dM.same{B:List Addr}{H H':Hp}(s:aQ H H'):dM B H B H':=fun b o e n=>⟨s b o e,n⟩
theorem dM.refl(B:List Addr)(H:Hp):dM B H B H:=dM.same (aQ.refl H)
theorem qN.bp{K:PySem.W.Frag}{B B':List Addr}{H H':Hp}(p:dM B H B' H'){a:Addr}{xs:List V}(l:qN K B H a xs):qN K B' H' a xs:=
 l.elim (fun z=> .inl ⟨(p.rd z.2 z.1).2,(p.rd z.2 z.1).1⟩) .inr
mutual
theorem Rep.bp{K:PySem.W.Frag}{B B':List Addr}{H H':Hp}(p:dM B H B' H'):∀{d:D} {v:V},Rep K B H d v→Rep K B' H' d v
 | .dk,_,h=>h
 | .bl _,_,h=>h
 | .int _,_,h=>h
 | .str _,_,h=>h
 | .lst ds,v,h=>by
   unfold Rep at h ⊢
   obtain⟨a,xs,e,l,r⟩:=h
   exact⟨a,xs,e,l.bp p,aF.bp p r⟩
 | .tup ds,v,h=>by
   unfold Rep at h ⊢
   obtain⟨a,xs,e,l,r⟩:=h
   exact⟨a,xs,e,l.elim (fun z=> .inl ⟨(p.rd z.2 z.1).2,(p.rd z.2 z.1).1⟩) .inr,aF.bp p r⟩
 | .dct ks ds,v,h=>by
   unfold Rep at h ⊢
   obtain⟨a,kvs,e,⟨n,l⟩,k,r⟩:=h
   exact⟨a,kvs,e,⟨(p a _ l n).2,(p a _ l n).1⟩,k,aF.bp p r⟩
theorem aF.bp{K:PySem.W.Frag}{B B':List Addr}{H H':Hp}(p:dM B H B' H'):∀{ds:List D} {xs:List V},aF K B H ds xs→aF K B' H' ds xs
 | [],_,h=>h
 | d ::ds,xs,h=>by
   unfold aF at h ⊢
   obtain⟨x,r,e,h1,h2⟩:=h
   exact⟨x,r,e,Rep.bp p h1,aF.bp p h2⟩
end
theorem Rep.same{K:PySem.W.Frag}{B:List Addr}{H H':Hp}{d:D}{v:V}(h:Rep K B H d v)(s:aQ H H'):Rep K B H' d v:=h.bp (dM.same s)
theorem aF.same{K:PySem.W.Frag}{B:List Addr}{H H':Hp}{d:List D}{v:List V}(h:aF K B H d v)(s:aQ H H'):aF K B H' d v:=h.bp (dM.same s)
theorem aF.nil{K:PySem.W.Frag}{B:List Addr}{H:Hp}:aF K B H [] []:=by unfold aF;rfl
theorem aF.cons{K:PySem.W.Frag}{B:List Addr}{H:Hp}{d:D}{ds:List D}{x:V}{xs:List V}(h:Rep K B H d x)(t:aF K B H ds xs):aF K B H (d ::ds) (x ::xs):=by
 unfold aF;exact⟨x,xs,rfl,h,t⟩
theorem aF.cn{K:PySem.W.Frag}{B:List Addr}{H:Hp}{d:D}{ds:List D}{xs:List V}(h:aF K B H (d ::ds) xs):∃x r,xs=x ::r∧Rep K B H d x∧aF K B H ds r:=by
 unfold aF at h;exact h
theorem aF.length{K:PySem.W.Frag}{B:List Addr}{H:Hp}:∀{ds:List D} {xs:List V},aF K B H ds xs→ds.length=xs.length
 | [],_,h=>by unfold aF at h;rw [h];rfl
 | d ::ds,xs,h=>by
   obtain⟨x,r,rfl,_,h2⟩:=h.cn
   simp [h2.length]
theorem aF.get{K:PySem.W.Frag}{B:List Addr}{H:Hp}:∀{ds:List D} {xs:List V} {i:Nat} {d:D},aF K B H ds xs→ds[i]? =some d→∃x,xs[i]? =some x∧Rep K B H d x
 | [],_,_,_,_,e=>by simp at e
 | d ::ds,xs,0,d',h,e=>by
   obtain⟨x,r,rfl,h1,h2⟩:=h.cn
   simp at e;subst e
   exact⟨x,rfl,h1⟩
 | d ::ds,xs,i+1,d',h,e=>by
   obtain⟨x,r,rfl,h1,h2⟩:=h.cn
   obtain⟨y,e1,e2⟩:=aF.get (i:=i) h2 (by simpa using e)
   exact⟨y,by simpa using e1,e2⟩
theorem aF.append{K:PySem.W.Frag}{B:List Addr}{H:Hp}:∀{ds es:List D} {xs ys:List V},aF K B H ds xs→aF K B H es ys→aF K B H (ds++es) (xs++ys)
 | [],_,_,_,h,t=>by unfold aF at h;subst h;exact t
 | d ::ds,es,xs,ys,h,t=>by
   obtain⟨x,r,rfl,h1,h2⟩:=h.cn
   exact aF.cons h1 (aF.append h2 t)
theorem aF.drop{K:PySem.W.Frag}{B:List Addr}{H:Hp}:∀{ds:List D} {xs:List V} (n:Nat),aF K B H ds xs→aF K B H (ds.drop n) (xs.drop n)
 | _,_,0,h=>h
 | [],_,n+1,h=>by unfold aF at h;subst h;exact aF.nil
 | d ::ds,xs,n+1,h=>by
   obtain⟨x,r,rfl,h1,h2⟩:=h.cn
   exact aF.drop n h2
theorem aF.take{K:PySem.W.Frag}{B:List Addr}{H:Hp}:∀{ds:List D} {xs:List V} (n:Nat),aF K B H ds xs→aF K B H (ds.take n) (xs.take n)
 | _,_,0,h=>aF.nil
 | [],_,n+1,h=>by unfold aF at h;subst h;exact aF.nil
 | d ::ds,xs,n+1,h=>by
   obtain⟨x,r,rfl,h1,h2⟩:=h.cn
   exact aF.cons h1 (aF.take n h2)
noncomputable def D.atom:D→Bool
 | .dk=>true | .bl _=>true | .int _=>true | .str _=>true | _=>false
theorem Rep.atom{K:PySem.W.Frag}{B B':List Addr}{H H':Hp}{d:D}{v:V}(a:d.atom=true)(h:Rep K B H d v):Rep K B' H' d v:=by
 cases d <;> first | exact h | cases a
inductive Sl where
 | un | val (d:D) | bld (ds:List D)
noncomputable abbrev av:=List Sl
structure dX (K:PySem.W.Frag) (Z B:List Addr) (H:Hp) (σ:St) (δ:av):Prop where
 len:δ.length=σ.length
 bs:∀a∈B,∃o,H a=some o
 zb:∀a∈Z,a∈B
 val:∀(i:Nat) (d:D),δ[i]? =some (.val d)→∃v,σ[i]? =some (some v)∧Rep K B H d v
 bld:∀(i:Nat) (ds:List D),δ[i]? =some (.bld ds)→∃a xs,σ[i]? =some (some (.ref a))∧a∈B∧a ∉ Z∧H a=some (.lst xs)∧aF K B H ds xs
 dis:∀(i j:Nat) (a:Addr) (ds es:List D),δ[i]? =some (.bld ds)→δ[j]? =some (.bld es)→σ[i]? =some (some (.ref a))→σ[j]? =some (some (.ref a))→i=j
theorem dX.same{K:PySem.W.Frag}{Z B:List Addr}{H H':Hp}{σ:St}{δ:av}(E:dX K Z B H σ δ)(s:aQ H H'):dX K Z B H' σ δ where
 len:=E.len
 bs:=fun a ha=>let⟨o,e⟩:=E.bs a ha;⟨o,s a o e⟩
 zb:=E.zb
 val:=fun i d e=>let⟨v,h1,h2⟩:=E.val i d e;⟨v,h1,h2.same s⟩
 bld:=fun i ds e=>let⟨a,xs,h1,h2,h3,h4,h5⟩:=E.bld i ds e;⟨a,xs,h1,h2,h3,s a _ h4,h5.same s⟩
 dis:=E.dis
noncomputable def jI(δ:av):av:=δ.map fun x=>match x with | .bld ds=> .val (.lst ds) | y=>y
theorem dX.jI{K:PySem.W.Frag}{Z B:List Addr}{H:Hp}{σ:St}{δ:av}(E:dX K Z B H σ δ):dX K [] [] H σ (jI δ) where
 len:=by unfold L2.jI;rw [List.length_map];exact E.len
 bs:=fun a ha=>by cases ha
 zb:=fun a ha=>by cases ha
 val:=fun i d e=>by
  unfold L2.jI at e
  rw[List.getElem?_map] at e
  have p:dM B H [] H:=fun b o e _=>⟨e,by simp⟩
  cases q:δ[i]? with
  | none=>rw [q] at e;cases e
  | some x=>
    rw[q] at e
    cases x with
    | un=>cases e
    | val d'=>cases e;obtain⟨v,h1,h2⟩:=E.val i d q;exact⟨v,h1,h2.bp p⟩
    | bld ds=>
      cases e
      obtain⟨a,xs,h1,_,_,h4,h5⟩:=E.bld i ds q
      refine⟨.ref a,h1,?_⟩
      unfold Rep
      exact⟨a,xs,rfl, .inl ⟨by simp, .inl h4⟩,h5.bp p⟩
 bld:=fun i ds e=>by
  unfold L2.jI at e
  rw[List.getElem?_map] at e
  cases q:δ[i]? with
  | none=>rw [q] at e;cases e
  | some x=>rw [q] at e;cases x <;> cases e
 dis:=fun i j a ds es e=>by
  unfold L2.jI at e
  rw[List.getElem?_map] at e
  cases q:δ[i]? with
  | none=>rw [q] at e;cases e
  | some x=>rw [q] at e;cases x <;> cases e
theorem PE.imp{X:Cx}{e:Expr}{t t':TE}(h:PE X e t)(w:∀σ H Q,t' σ H Q→t σ H Q):PE X e t':=fun pins s σ H Q I hq=>h pins s σ H Q I (w σ H Q hq)
theorem PT.imp{X:Cx}{e:Expr}{t t':TT}(h:PT X e t)(w:∀σ H Q,t' σ H Q→t σ H Q):PT X e t':=fun pins s σ H Q I hq=>h pins s σ H Q I (w σ H Q hq)
theorem PA.imp{X:Cx}{e:List Expr}{t t':TA}(h:PA X e t)(w:∀σ H Q,t' σ H Q→t σ H Q):PA X e t':=fun pos pins s σ H Q I hq=>h pos pins s σ H Q I (w σ H Q hq)
theorem PS.imp{X:Cx}{e:Stmt}{t t':TS}(h:PS X e t)(w:∀D σ H,t' D σ H→t D σ H):PS X e t':=fun pins s σ H D I hq=>h pins s σ H D I (w D σ H hq)
theorem sE.imp{X:Cx}{e:List Stmt}{t t':TS}(h:sE X e t)(w:∀D σ H,t' D σ H→t D σ H):sE X e t':=fun pins s σ H D I hq=>h pins s σ H D I (w D σ H hq)
theorem PG.imp{X:Cx}{e:Expr}{t t':TG}(h:PG X e t)(w:∀v σ H Q,t' v σ H Q→t v σ H Q):PG X e t':=fun pins s σ H v u Q I r hq=>h pins s σ H v u Q I r (w v σ H Q hq)
theorem PI.imp{X:Cx}{tg e:Expr}{t t':TI}(h:PI X tg e t)(w:∀σ H Q,t' σ H Q→t σ H Q):PI X tg e t':=fun pins s σ H Q I hq=>h pins s σ H Q I (w σ H Q hq)
noncomputable abbrev FD:=av→R D
noncomputable def tD(K:PySem.W.Frag)(f:FD):TE:=fun σ H Q=>∃Z B δ d,dX K Z B H σ δ∧f δ= .ok d∧∀v H',aQ H H'→Rep K B H' d v→Q v H'
noncomputable def tN(K:PySem.W.Frag)(f:av→R (List D)):TE:=fun σ H Q=>∃Z B δ ds,dX K Z B H σ δ∧f δ= .ok ds∧∀a xs H',aQ H H'→H a=none→H' a=some (.lst xs)→aF K (a ::B) H' ds xs→Q (.ref a) H'
noncomputable def Gv(K:PySem.W.Frag)(f:av→R Bool):TT:=fun σ H Q=>∃Z B δ b,dX K Z B H σ δ∧f δ= .ok b∧∀H',aQ H H'→Q b H'
noncomputable def JX(K:PySem.W.Frag)(f:av→R (List D)):TA:=fun σ H Q=>∃Z B δ ds,dX K Z B H σ δ∧f δ= .ok ds∧∀vs H',aQ H H'→aF K B H' ds vs→Q vs H'
noncomputable abbrev PD(X:Cx)(e:Expr)(f:FD):Prop:=PE X e (tD X.K f)
noncomputable abbrev PN(X:Cx)(e:Expr)(f:av→R (List D)):Prop:=PE X e (tN X.K f)
noncomputable abbrev PB(X:Cx)(e:Expr)(f:av→R Bool):Prop:=PT X e (Gv X.K f)
noncomputable abbrev AU(X:Cx)(es:List Expr)(f:av→R (List D)):Prop:=PA X es (JX X.K f)
section
variable {X:Cx}
noncomputable def eNew(f:av→R (List D)):FD:=fun δ=>(f δ).bind fun ds=> .ok (.lst ds)
theorem FY{e:Expr}{f:av→R (List D)}(h:PN X e f):PD X e (eNew f):=h.imp fun σ H Q ⟨Z,B,δ,d,E,hf,q⟩=>by
 obtain⟨ds,h1,h2⟩:=R.ak hf
 cases h2
 refine⟨Z,B,δ,ds,E,h1,fun a xs H' s n e r=>q _ H' s ?_⟩
 unfold Rep
 refine⟨a,xs,rfl, .inl ⟨fun ha=>?_, .inl e⟩,r.bp fun b o e nb=>⟨e,fun hb=>nb (List.mem_cons_of_mem _ hb)⟩⟩
 obtain⟨o,ho⟩:=E.bs a ha
 rw[n] at ho;cases ho
theorem uY{B:List Addr}{H:Hp}{p:Addr}{o:HO}(h:H p=none):dM B H (p ::B) (upd H p o):=fun b u e nb=>
 ⟨by rw[ba (cC e h)];exact e,fun hb=>by
   rcases List.mem_cons.mp hb with z | z
   ·exact cC e h z
   ·exact nb z⟩
noncomputable def iV(f:FD):FD:=fun δ=>(f (jI δ)).bind fun d=>R.bC d.atom (.ok d)
theorem CH{e:Expr}{f:FD}(h:PD X e f):PD X e (iV f):=h.imp fun σ H Q ⟨Z,B,δ,d,E,hf,q⟩=>by
 obtain⟨d',h1,h2⟩:=R.ak hf
 obtain⟨ha,h3⟩:=R.bj h2
 cases h3
 exact⟨[],[],L2.jI δ,d,E.jI,h1,fun v H' s r=>q v H' s (r.atom ha)⟩
noncomputable def oC(f:av→R Bool):av→R Bool:=fun δ=>f (jI δ)
noncomputable def af(i:Nat):FD:=fun δ=>match δ[i]? with | some (.val d)=> .ok d | _=> .no
noncomputable def eC(d:D):FD:=fun _=> .ok d
theorem Ff(i:Nat){x:Str}{pos:Pos}(hN:X.N[i]? =some x:=by rfl)(hv:D0 X.env.scope x:=by first | exact Or.inl rfl | exact Or.inr (Or.inl rfl) | exact Or.inr (Or.inr rfl))(hd:(x==("__debug__":Str))=false:=by decide)
 (hcd:(x==("__classdict__":Str))=false:=by decide):PD X (.Name x pos) (af i):=(sg hN hv hd hcd).imp fun σ H Q ⟨Z,B,δ,d,E,hf,q⟩=>by
 unfold af at hf
 split at hf
 ·rename_i d' e
  cases hf
  obtain⟨v,h1,h2⟩:=E.val i d e
  exact⟨v,h1,q v H (aQ.refl H) h2⟩
 ·cases hf
theorem mM{e:Expr}{v:V}{d:D}(h:PE X e (tC v))(r:∀B H,Rep X.K B H d v):PD X e (eC d):=h.imp fun σ H Q ⟨Z,B,δ,d',E,hf,q⟩=>by
 cases hf
 exact q v H (aQ.refl H) (r B H)
theorem Er{i j pos}:PD X (.Constant (.int i) j pos) (eC (.int i)):=mM pV fun _ _=>by unfold Rep;rfl
theorem Hv{b j pos}:PD X (.Constant (.bool b) j pos) (eC (.bl b)):=mM GY fun _ _=>by unfold Rep;rfl
theorem Fe{j pos}:PD X (.Constant .none j pos) (eC .dk):=mM Gy fun _ _=>by unfold Rep;rfl
theorem EG{x j pos}:PD X (.Constant (.str x) j pos) (eC (.str x)):=mM pF fun _ _=>by unfold Rep;rfl
noncomputable def Glob(K:PySem.W.Frag)(mg:Str→Option Value)(x:Str)(d:D):Prop:=∃(u:Value) (v:V),mg x=some u∧RelV v u∧∀B H,Rep K B H d v
noncomputable def aI:av→R (List D):=fun _=> .ok []
noncomputable def aj(f:FD)(g:av→R (List D)):av→R (List D):=fun δ=>(f δ).bind fun d=>(g δ).bind fun ds=> .ok (d ::ds)
theorem Cq:AU X [] aI:=jf.imp fun σ H Q ⟨Z,B,δ,d,E,hf,q⟩=>by
 cases hf
 exact q [] H (aQ.refl H) aF.nil
theorem z8{e:Expr}{es:List Expr}{f:FD}{g:av→R (List D)}(h:PD X e f)(t:AU X es g)(hs:starEach (e ::es) X.env=(false,eval e X.env) ::starEach es X.env:=by rfl):AU X (e ::es) (aj f g):=
 (gJ h t hs).imp fun σ H Q ⟨Z,B,δ,d,E,hf,q⟩=>by
   obtain⟨d1,h1,h2⟩:=R.ak hf
   obtain⟨ds,h3,h4⟩:=R.ak h2
   cases h4
   exact⟨Z,B,δ,d1,E,h1,fun v H1 s1 r1=>⟨Z,B,δ,ds,E.same s1,h3,fun vs H2 s2 r2=>q _ H2 (s1.trans s2) (aF.cons (r1.same s2) r2)⟩⟩
noncomputable def cP(g:av→R (List D)):FD:=fun δ=>(g δ).bind fun ds=>R.bC (decide (ds.length≤sizeLine)) (.ok (.tup ds))
noncomputable def fJ(g:av→R (List D)):av→R (List D):=fun δ=>(g δ).bind fun ds=>R.bC (decide (ds.length≤sizeLine)) (.ok ds)
theorem bo{H:Hp}{p:Addr}{o:HO}(h:H p=none):aQ H (upd H p o):=fun b u e=>by rw[ba (cC e h)];exact e
theorem FJ{es:List Expr}{g:av→R (List D)}{x1 pos}(h:AU X es g):PD X (.Tuple es x1 pos) (cP g):=(zK h).imp fun σ H Q ⟨Z,B,δ,d,E,hf,q⟩=>by
 obtain⟨ds,h1,h2⟩:=R.ak hf
 obtain⟨hl,h3⟩:=R.bj h2
 cases h3
 refine⟨Z,B,δ,ds,E,h1,fun vs H1 s1 r1=>⟨by rw[←r1.length];exact of_decide_eq_true hl,fun p hp=>q _ _ (s1.trans (bo hp)) ?_⟩⟩
 unfold Rep
 refine⟨p,vs,rfl, .inl ⟨fun ha=>?_, .inl bc⟩,r1.same (bo hp)⟩
 obtain⟨o,ho⟩:=(E.same s1).bs p ha
 rw[hp] at ho;cases ho
theorem FK{es:List Expr}{g:av→R (List D)}{pos}(h:AU X es g):PN X (.List es pos) (fJ g):=(A9 h).imp fun σ H Q ⟨Z,B,δ,d,E,hf,q⟩=>by
 obtain⟨ds,h1,h2⟩:=R.ak hf
 obtain⟨hl,h3⟩:=R.bj h2
 cases h3
 exact⟨Z,B,δ,_,E,h1,fun vs H1 s1 r1=>⟨by rw[←r1.length];exact of_decide_eq_true hl,fun p hp=>q p vs _ (s1.trans (bo hp)) (s1.free hp) bc (r1.bp (uY hp))⟩⟩
noncomputable def ke(X:Cx)(f:Value→Value→Sem Value)(g:D→D→R D):Prop:=
 ∀(pins:List (Addr × Obj)) (s:Shared) (σ:St) (H:Hp) (B:List Addr) (da db d:D) (x y:V) (v u:Value),Inv X pins σ H s→(∀a∈B,∃o,H a=some o)→RelV x v→RelV y u→Rep X.K B H da x→Rep X.K B H db y→g da db= .ok d→
  wpAny (model X.prog X.w) X.A (f v u) (EP X pins σ fun z H'=>aQ H H'∧Rep X.K B H' d z) X.xe s
noncomputable def e2(g:D→D→R D)(fa fb:FD):FD:=fun δ=>(fa δ).bind fun a=>(fb δ).bind fun b=>g a b
theorem ke.r{f:Value→Value→Sem Value}{g:D→D→R D}(h:ke X f g):k6 X f (fun x y H Q=>∃B da db d,(∀a∈B,∃o,H a=some o)∧Rep X.K B H da x∧Rep X.K B H db y∧g da db= .ok d∧∀z H',aQ H H'→Rep X.K B H' d z→Q z H'):=by
 intro pins s σ H x y v u Q I rx ry ⟨B,da,db,d,hb,ha,hb',hg,q⟩
 exact d5 (h pins s σ H B da db d x y v u I hb rx ry ha hb' hg) fun z s' ⟨zv,H',I',r',s1,r1⟩=>⟨zv,H',I',r',q zv H' s1 r1⟩
theorem E9{K:PySem.W.Frag}{g:D→D→R D}{fa fb:FD}{σ:St}{H:Hp}{Q:VK}(h:tD K (e2 g fa fb) σ H Q) :
 GC (fun x y H Q=>∃B da db d,(∀a∈B,∃o,H a=some o)∧Rep K B H da x∧Rep K B H db y∧g da db= .ok d∧∀z H',aQ H H'→Rep K B H' d z→Q z H') (tD K fa) (tD K fb) σ H Q:=by
 obtain⟨Z,B,δ,d,E,hf,q⟩:=h
 obtain⟨d1,h1,h2⟩:=R.ak hf
 obtain⟨d2,h3,h4⟩:=R.ak h2
 exact⟨Z,B,δ,d1,E,h1,fun v1 H1 s1 r1=>⟨Z,B,δ,d2,E.same s1,h3,fun v2 H2 s2 r2=>⟨B,d1,d2,d,(E.same (s1.trans s2)).bs,r1.same s2,r2,h4,fun z H' s3 r3=>q z H' (s1.trans (s2.trans s3)) r3⟩⟩⟩
theorem HZ{op:Operator}{g:D→D→R D}{a b:Expr}{fa fb:FD}{pos:Pos}(ho:ke X (binaryOp op) g)(ha:PD X a fa)(hb:PD X b fb):PD X (.BinOp a op b pos) (e2 g fa fb):=
 (D_ ho.r ha hb).imp fun σ H Q h=>E9 h
theorem F7{op:CmpOp}{g:D→D→R D}{a b:Expr}{fa fb:FD}{pos:Pos}(ho:ke X (compareOp op) g)(ha:PD X a fa)(hb:PD X b fb)(hm:behindInMarks op b=false):PD X (.Compare a [op] [b] pos) (e2 g fa fb):=
 (x4 ho.r ha hb hm).imp fun σ H Q h=>E9 h
noncomputable def b2(g:D→D→R D)(fa fb:FD):av→R Bool:=fun δ=>(e2 g fa fb δ).bind fun d=>match d with | .bl b=> .ok b | _=> .no
theorem EB{op:CmpOp}{g:D→D→R D}{a b:Expr}{fa fb:FD}{pos:Pos}(ho:ke X (compareOp op) g)(ha:PD X a fa)(hb:PD X b fb)(hm:behindInMarks op b=false):PB X (.Compare a [op] [b] pos) (b2 g fa fb):=
 (xZ ho.r ha hb hm).imp fun σ H Q ⟨Z,B,δ,b,E,hf,q⟩=>by
   obtain⟨d,h1,h2⟩:=R.ak hf
   cases d with
   | bl k=>
     cases h2
     exact E9 (g:=g) (Q:=fun x H'=>∃k,x= .bl k∧Q k H') ⟨Z,B,δ, .bl b,E,h1,fun v H' s r=>⟨b,by unfold Rep at r;exact r,q H' s⟩⟩
   | _=>cases h2
noncomputable def Jt(g g':D→D→R D)(fa fb fc:FD):FD:=fun δ=>(fa δ).bind fun a=>(fb δ).bind fun b=>(g a b).bind fun r=>match r with
 | .bl true=>(fc δ).bind fun c=>g' b c
 | .bl false=> .ok (.bl false)
 | _=> .no
noncomputable def pK:D→R Bool
 | .dk=> .ok false
 | .bl b=> .ok b
 | .int i=> .ok (i !=0)
 | .str x=>R.bC (decide (x.length≤sizeLine)) (.ok ((x.length:Int) !=0))
 | .lst ds=> .ok (!ds.isEmpty)
 | .tup ds=> .ok (!ds.isEmpty)
 | .dct _ _=> .no
noncomputable def k9(f:FD):av→R Bool:=fun δ=>(f δ).bind pK
theorem aF.isEmpty{K:PySem.W.Frag}{B:List Addr}{H:Hp}{ds:List D}{xs:List V}(h:aF K B H ds xs):ds.isEmpty=xs.isEmpty:=by
 have:=h.length
 cases ds <;> cases xs <;> simp_all
theorem Ez{K:PySem.W.Frag}{B:List Addr}{H:Hp}{d:D}{v:V}{b:Bool}(r:Rep K B H d v)(h:pK d= .ok b):F4 K v H b:=by
 cases d with
 | dk=>unfold Rep at r;subst r;cases h;exact rfl
 | bl k=>unfold Rep at r;subst r;cases h;exact rfl
 | int i=>unfold Rep at r;subst r;cases h;exact rfl
 | str x=>unfold Rep at r;subst r;obtain⟨h1,h2⟩:=R.bj h;cases h2;exact⟨of_decide_eq_true h1,rfl⟩
 | lst ds=>unfold Rep at r;obtain⟨a,xs,rfl,l,r⟩:=r;cases h;exact .inl ⟨xs,l.sq,by rw[r.isEmpty]⟩
 | tup ds=>unfold Rep at r;obtain⟨a,xs,rfl,l,r⟩:=r;cases h;exact .inr (.inl ⟨xs,l.sq,by rw[r.isEmpty]⟩)
 | dct _ _=>cases h
theorem ED{a:Expr}{f:FD}(ha:PD X a f)(he:∀whole,isTrue a X.env whole=(do let v ←whole;standAt a.pos;holding [v] (truthy v)):=by intro _;rfl):PB X a (k9 f):=
 (zA ha he).imp fun σ H Q ⟨Z,B,δ,b,E,hf,q⟩=>by
   obtain⟨d,h1,h2⟩:=R.ak hf
   exact⟨Z,B,δ,d,E,h1,fun v H' s r=>⟨b,Ez r h2,q H' s⟩⟩
noncomputable def mK(f g:av→R Bool):av→R Bool:=fun δ=>(f δ).bind fun b=>if b then g δ else .ok false
noncomputable def vE(f g:av→R Bool):av→R Bool:=fun δ=>(f δ).bind fun b=>if b then .ok true else g δ
noncomputable def k8(f:av→R Bool):av→R Bool:=fun δ=>(f δ).bind fun b=> .ok (!b)
noncomputable def BV(X:Cx)(e:Expr)(f:av→R Bool):Prop:=PW X e (Gv X.K f)
theorem BV.pb{e:Expr}{f:av→R Bool}(h:BV X e f):PB X e f:=PW.pt h
theorem z0{a:Expr}{f:av→R Bool}{pos:Pos}(h:PB X a f):BV X (.BoolOp .And [a] pos) f:=B8 h
theorem Co{a:Expr}{f:av→R Bool}{pos:Pos}(h:PB X a f):BV X (.BoolOp .Or [a] pos) f:=A8 h
theorem Dk{a b:Expr}{rest:List Expr}{f g:av→R Bool}{pos:Pos}(ha:PB X a f)(hb:BV X (.BoolOp .And (b ::rest) pos) g):BV X (.BoolOp .And (a ::b ::rest) pos) (mK f g):=by
 intro wh pins s σ H Q I ⟨Z,B,δ,k,E,hf,q⟩
 refine EU ha hb wh pins s σ H Q I ?_
 obtain⟨c,h1,h2⟩:=R.ak hf
 refine⟨Z,B,δ,c,E,h1,fun H1 s1=>?_⟩
 cases c with
 | true=>rw [if_pos rfl] at h2 ⊢;exact⟨Z,B,δ,k,E.same s1,h2,fun H' s2=>q H' (s1.trans s2)⟩
 | false=>rw [if_neg (by decide)] at h2 ⊢;cases h2;exact q H1 s1
theorem Fi{a b:Expr}{rest:List Expr}{f g:av→R Bool}{pos:Pos}(ha:PB X a f)(hb:BV X (.BoolOp .Or (b ::rest) pos) g):BV X (.BoolOp .Or (a ::b ::rest) pos) (vE f g):=by
 intro wh pins s σ H Q I ⟨Z,B,δ,k,E,hf,q⟩
 refine D2 ha hb wh pins s σ H Q I ?_
 obtain⟨c,h1,h2⟩:=R.ak hf
 refine⟨Z,B,δ,c,E,h1,fun H1 s1=>?_⟩
 cases c with
 | true=>rw [if_pos rfl] at h2 ⊢;cases h2;exact q H1 s1
 | false=>rw [if_neg (by decide)] at h2 ⊢;exact⟨Z,B,δ,k,E.same s1,h2,fun H' s2=>q H' (s1.trans s2)⟩
theorem Gf{a:Expr}{f:av→R Bool}{pos:Pos}(ha:PB X a f):PB X (.UnaryOp .Not a pos) (k8 f):=(FP ha).imp fun σ H Q ⟨Z,B,δ,k,E,hf,q⟩=>by
 obtain⟨c,h1,h2⟩:=R.ak hf
 cases h2
 exact⟨Z,B,δ,c,E,h1,fun H1 s1=>q H1 s1⟩
noncomputable def Bn(f:FD):av→R Bool:=fun δ=>(f δ).bind fun d=>match d with | .bl b=> .ok b | _=> .no
noncomputable def uK(f g:FD):FD:=fun δ=>(Bn f δ).bind fun b=>if b then g δ else .ok (.bl false)
noncomputable def D5(f g:FD):FD:=fun δ=>(Bn f δ).bind fun b=>if b then .ok (.bl true) else g δ
noncomputable def uA(f:FD):FD:=fun δ=>(Bn f δ).bind fun b=> .ok (.bl (!b))
noncomputable def wx(c:av→R Bool)(f g:FD):FD:=fun δ=>(c δ).bind fun b=>if b then f δ else g δ
theorem G_{c a b:Expr}{fc:av→R Bool}{f g:FD}{pos:Pos}(hc:PB X c fc)(ha:PD X a f)(hb:PD X b g):PD X (.IfExp c a b pos) (wx fc f g):=(Ad hc ha hb).imp fun σ H Q ⟨Z,B,δ,k,E,hf,q⟩=>by
 obtain⟨c,h1,h2⟩:=R.ak hf
 refine⟨Z,B,δ,c,E,h1,fun H1 s1=>?_⟩
 cases c with
 | true=>rw [if_pos rfl] at h2 ⊢;exact⟨Z,B,δ,k,E.same s1,h2,fun v H' s2 r2=>q v H' (s1.trans s2) r2⟩
 | false=>rw [if_neg (by decide)] at h2 ⊢;exact⟨Z,B,δ,k,E.same s1,h2,fun v H' s2 r2=>q v H' (s1.trans s2) r2⟩
noncomputable def cZ(X:Cx)(f:Value)(g:List D→R D):Prop:=
 ∀(pins:List (Addr × Obj)) (s:Shared) (σ:St) (H:Hp) (B:List Addr) (ds:List D) (d:D) (xs:List V) (us:List Value),Inv X pins σ H s→(∀a∈B,∃o,H a=some o)→Vals xs us→aF X.K B H ds xs→g ds= .ok d→
  wpAny (model X.prog X.w) X.A (call f us) (EP X pins σ fun z H'=>aQ H H'∧Rep X.K B H' d z) X.xe s
noncomputable def aK(g:List D→R D)(fs:av→R (List D)):FD:=fun δ=>(fs δ).bind g
theorem cZ.r{f:Value}{g:List D→R D}(h:cZ X f g):kq X f (fun xs H Q=>∃B ds d,(∀a∈B,∃o,H a=some o)∧aF X.K B H ds xs∧g ds= .ok d∧∀z H',aQ H H'→Rep X.K B H' d z→Q z H'):=by
 intro pins s σ H xs us Q I rx ⟨B,ds,d,hb,hr,hg,q⟩
 exact d5 (h pins s σ H B ds d xs us I hb rx hr hg) fun z s' ⟨zv,H',I',r',s1,r1⟩=>⟨zv,H',I',r',q zv H' s1 r1⟩
theorem xM{K:PySem.W.Frag}{g:List D→R D}{fs:av→R (List D)}{σ:St}{H:Hp}{Q:VK}(h:tD K (aK g fs) σ H Q) :
 JX K fs σ H fun vs H1=>∃B ds d,(∀a∈B,∃o,H1 a=some o)∧aF K B H1 ds vs∧g ds= .ok d∧∀z H',aQ H1 H'→Rep K B H' d z→Q z H':=by
 obtain⟨Z,B,δ,d,E,hf,q⟩:=h
 obtain⟨ds,h1,h2⟩:=R.ak hf
 exact⟨Z,B,δ,ds,E,h1,fun vs H1 s1 r1=>⟨B,ds,d,(E.same s1).bs,r1,h2,fun z H' s2 r2=>q z H' (s1.trans s2) r2⟩⟩
theorem A5{g:List D→R D}{x:Str}{id:String}{p pos:Pos}{e:Expr}{es:List Expr}{fs:av→R (List D)}(hc:cZ X (.builtin id) g)(hg:Gl X x)(hm:X.mg x=none)(hv:bootBuiltins x=some (.builtin id))(ha:AU X (e ::es) fs)(hn:x≠"__name__":=by decide)(hdb:(x==("__debug__":Str))=false:=by decide)
 (he:starEach (e ::es) X.env=(false,eval e X.env) ::starEach es X.env:=by rfl) (hpl:(backTo pos (starEach es X.env)).any (·.1)=false:=by rfl):PD X (.Call (.Name x p) (e ::es) [] pos) (aK g fs):=
 (Ba hc.r hg hm hv ha hn hdb he hpl).imp fun σ H Q h=>xM h
theorem yQ{g:List D→R D}{x:Str}{T:String}{p pos:Pos}{e:Expr}{es:List Expr}{fs:av→R (List D)}(hc:cZ X (.type T) g)(hg:Gl X x)(hm:X.mg x=none)(hv:bootBuiltins x=some (.type T))(ha:AU X (e ::es) fs)(hn:x≠"__name__":=by decide)(hdb:(x==("__debug__":Str))=false:=by decide)
 (he:starEach (e ::es) X.env=(false,eval e X.env) ::starEach es X.env:=by rfl) (hpl:(backTo pos (starEach es X.env)).any (·.1)=false:=by rfl):PD X (.Call (.Name x p) (e ::es) [] pos) (aK g fs):=
 (yu hc.r hg hm hv ha hn hdb he hpl).imp fun σ H Q h=>xM h
noncomputable def Bq(K:PySem.W.Frag)(n:Nat)(g:List D→R D):Sp:=fun vs H Q _=>vs.length=n∧∃B ds d,(∀a∈B,∃o,H a=some o)∧aF K B H ds vs∧g ds= .ok d∧∀z H',aQ H H'→Rep K B H' d z→Q z H'
theorem B7{g:List D→R D}{k n:Nat}{f:Addr}{fd:FuncData}{ps:List Str}{x:Str}{p pos:Pos}{e:Expr}{es:List Expr}{fs:av→R (List D)}
 (F:hJ X.prog X.w X.K X.mg X.base qQ k f fd ps (Bq X.K n g)) (hr:eI k X.A) (hg:Gl X x) (hm:X.mg x=some (.ref f)) (hk:PySem.W.keepIn X.K (.ref f)=true) (hb:Binds X.K fd ps []) (ha:AU X (e ::es) fs)
 (hn:∀δ ds,fs δ= .ok ds→ds.length=n) (hdb:(x==("__debug__":Str))=false:=by decide) (he:starEach (e ::es) X.env=(false,eval e X.env) ::starEach es X.env:=by rfl) (hpl:(backTo pos (starEach es X.env)).any (·.1)=false:=by rfl) :
 PD X (.Call (.Name x p) (e ::es) [] pos) (aK g fs):=
 (su F hr hg hm hk hb .nil vm ha hdb he hpl).imp fun σ H Q ⟨Z,B,δ,d,E,hf,q⟩=>by
   obtain⟨ds,h1,h2⟩:=R.ak hf
   refine⟨Z,B,δ,ds,E,h1,fun vs H1 s1 r1=>?_⟩
   show Bq X.K n g (vs++[]) H1 Q E0
   rw[List.append_nil]
   exact⟨by rw[←r1.length];exact hn δ ds h1,B,ds,d,(E.same s1).bs,r1,h2,fun z H' s2 r2=>q z H' (s1.trans s2) r2⟩
end
end L2
end
section
set_option maxRecDepth 100000
set_option maxHeartbeats 4000000
namespace L2
open PySem PySem.Spec PyProof.Rows
inductive Out where
 | nx (δ:av) | rt (d:D)
noncomputable abbrev FS:=av→R Out
structure Ev (Z B:List Addr) (H:Hp) (B':List Addr) (H':Hp):Prop where
 bp:dM B H B' H'
 zs:∀b o,H b=some o→b∈Z→H' b=some o∧b∈B'
theorem Ev.refl(Z B:List Addr)(H:Hp)(zb:∀a∈Z,a∈B):Ev Z B H B H:=⟨dM.refl B H,fun b o e z=>⟨e,zb b z⟩⟩
theorem Ev.trans{Z B B' B'':List Addr}{H H' H'':Hp}(a:Ev Z B H B' H')(b:Ev Z B' H' B'' H''):Ev Z B H B'' H'':=
 ⟨a.bp.trans b.bp,fun c o e z=>let⟨e1,_⟩:=a.zs c o e z;b.zs c o e1 z⟩
theorem Ev.same{Z B:List Addr}{H H':Hp}(zb:∀a∈Z,a∈B)(s:aQ H H'):Ev Z B H B H':=⟨dM.same s,fun b o e z=>⟨s b o e,zb b z⟩⟩
noncomputable def yk(K:PySem.W.Frag)(Z B:List Addr)(H:Hp)(D:Ends):Out→Prop
 | .nx δ'=>∀σ' B' H',Ev Z B H B' H'→dX K Z B' H' σ' δ'→D.nx σ' H'
 | .rt d=>∀v B' H',Ev Z B H B' H'→(∀a∈Z,a∈B')→Rep K B' H' d v→D.rt v H'
theorem yk.ev{K:PySem.W.Frag}{Z B B1:List Addr}{H H1:Hp}{D:Ends}{o:Out}(q:yk K Z B H D o)(ev:Ev Z B H B1 H1):yk K Z B1 H1 D o:=by
 cases o with
 | nx δ'=>exact fun σ' B' H' ev' E'=>q σ' B' H' (ev.trans ev') E'
 | rt d=>exact fun v B' H' ev' z r=>q v B' H' (ev.trans ev') z r
noncomputable def sD(K:PySem.W.Frag)(F:FS):TS:=fun D σ H=>∃Z B δ o,dX K Z B H σ δ∧F δ= .ok o∧yk K Z B H D o
noncomputable abbrev BZ(X:Cx)(st:Stmt)(F:FS):Prop:=PS X st (sD X.K F)
noncomputable abbrev oR(X:Cx)(st:List Stmt)(F:FS):Prop:=sE X st (sD X.K F)
section
variable {X:Cx}
noncomputable def gU:FS:=fun δ=> .ok (.nx δ)
noncomputable def dj(F G:FS):FS:=fun δ=>(F δ).bind fun o=>match o with | .nx δ'=>G δ' | .rt d=> .ok (.rt d)
theorem Di:oR X [] gU:=xV.imp fun D σ H ⟨Z,B,δ,o,E,hf,q⟩=>by
 cases hf
 exact q σ B H (Ev.refl Z B H E.zb) E
theorem F9{K:PySem.W.Frag}{F G:FS}{D:Ends}{σ:St}{H:Hp}(h:sD K (dj F G) D σ H):G2 (sD K F) (sD K G) D σ H:=by
 obtain⟨Z,B,δ,o,E,hf,q⟩:=h
 obtain⟨o1,h1,h2⟩:=R.ak hf
 refine⟨Z,B,δ,o1,E,h1,?_⟩
 cases o1 with
 | nx δ1=>
   intro σ1 B1 H1 ev E1
   refine⟨Z,B1,δ1,o,E1,h2,?_⟩
   cases o with
   | nx δ2=>exact fun σ' B' H' ev' E'=>q σ' B' H' (ev.trans ev') E'
   | rt d=>exact fun v B' H' ev' z r=>q v B' H' (ev.trans ev') z r
 | rt d=>
   cases h2
   exact q
theorem Bk{st:Stmt}{rest:List Stmt}{F G:FS}(h1:BZ X st F)(h2:oR X rest G):oR X (st ::rest) (dj F G):=(va h1 h2).imp fun D σ H h=>F9 h
theorem DT{st:Stmt}{F:FS}(h1:BZ X st F):oR X [st] F:=ya h1
theorem dX.set{K:PySem.W.Frag}{Z B:List Addr}{H:Hp}{σ:St}{δ:av}(E:dX K Z B H σ δ){i:Nat}{d:D}{v:V}(hi:i < σ.length)(r:Rep K B H d v):dX K Z B H (σ.set i (some v)) (δ.set i (.val d)) where
 len:=by rw[List.length_set,List.length_set];exact E.len
 bs:=E.bs
 zb:=E.zb
 val:=fun j d' e=>by
  by_cases h:i=j
  ·subst h
   rw[List.getElem?_set_self (by rw[E.len];exact hi)] at e
   cases e
   exact⟨v,List.getElem?_set_self hi,r⟩
  ·rw[List.getElem?_set_ne h] at e ⊢
   exact E.val j d' e
 bld:=fun j ds e=>by
  by_cases h:i=j
  ·subst h
   rw[List.getElem?_set_self (by rw[E.len];exact hi)] at e
   cases e
  ·rw[List.getElem?_set_ne h] at e ⊢
   exact E.bld j ds e
 dis:=fun j k a ds es e1 e2 e3 e4=>by
  by_cases h:i=j
  ·subst h
   rw[List.getElem?_set_self (by rw[E.len];exact hi)] at e1
   cases e1
  ·by_cases h':i=k
   ·subst h'
    rw[List.getElem?_set_self (by rw[E.len];exact hi)] at e2
    cases e2
   ·rw[List.getElem?_set_ne h] at e1 e3
    rw[List.getElem?_set_ne h'] at e2 e4
    exact E.dis j k a ds es e1 e2 e3 e4
theorem dX.setB{K:PySem.W.Frag}{Z B:List Addr}{H:Hp}{σ:St}{δ:av}(E:dX K Z B H σ δ){i:Nat}{ds:List D}{a:Addr}{xs:List V}(hi:i < σ.length)(hB:a∈B)(hZ:a ∉ Z)(hH:H a=some (.lst xs))(r:aF K B H ds xs)
 (new:∀j es,j≠i→δ[j]? =some (.bld es)→σ[j]?≠some (some (.ref a))):dX K Z B H (σ.set i (some (.ref a))) (δ.set i (.bld ds)) where
 len:=by rw[List.length_set,List.length_set];exact E.len
 bs:=E.bs
 zb:=E.zb
 val:=fun j d' e=>by
  by_cases h:i=j
  ·subst h
   rw[List.getElem?_set_self (by rw[E.len];exact hi)] at e
   cases e
  ·rw[List.getElem?_set_ne h] at e ⊢
   exact E.val j d' e
 bld:=fun j es e=>by
  by_cases h:i=j
  ·subst h
   rw[List.getElem?_set_self (by rw[E.len];exact hi)] at e
   cases e
   exact⟨a,xs,List.getElem?_set_self hi,hB,hZ,hH,r⟩
  ·rw[List.getElem?_set_ne h] at e ⊢
   exact E.bld j es e
 dis:=fun j k b ds1 es1 e1 e2 e3 e4=>by
  by_cases h:i=j
  ·subst h
   by_cases h':i=k
   ·exact h'
   ·rw[List.getElem?_set_self hi] at e3
    cases e3
    rw[List.getElem?_set_ne h'] at e2 e4
    exact absurd e4 (new k es1 (Ne.symm h') e2)
  ·by_cases h':i=k
   ·subst h'
    rw[List.getElem?_set_self hi] at e4
    cases e4
    rw[List.getElem?_set_ne h] at e1 e3
    exact absurd e3 (new j ds1 (Ne.symm h) e1)
   ·rw[List.getElem?_set_ne h] at e1 e3
    rw[List.getElem?_set_ne h'] at e2 e4
    exact E.dis j k b ds1 es1 e1 e2 e3 e4
noncomputable def il(i:Nat)(f:FD):FS:=fun δ=>(f δ).bind fun d=>R.bC (decide (i < δ.length)) (.ok (.nx (δ.set i (.val d))))
theorem Ft{K:PySem.W.Frag}{i:Nat}{f:FD}{D:Ends}{σ:St}{H:Hp}(h:sD K (il i f) D σ H):yI (tD K f) (p7 i) D σ H:=by
 obtain⟨Z,B,δ,o,E,hf,q⟩:=h
 obtain⟨d,h1,h2⟩:=R.ak hf
 obtain⟨hi,h3⟩:=R.bj h2
 cases h3
 refine⟨Z,B,δ,d,E,h1,fun v H1 s1 r1=>?_⟩
 exact q _ B H1 (Ev.same E.zb s1) ((E.same s1).set (by rw[←E.len];exact of_decide_eq_true hi) r1)
theorem C5{i:Nat}{x:Str}{e:Expr}{f:FD}{pos pos':Pos}(hN:X.N.Nodup)(hi:X.N[i]? =some x)(hx:Loc X.env.scope x)(he:PD X e f)(hs:swapsWith e (some (.Name x pos')) pos.line X.env=pure false:=by rfl)(hf:X.fn x=true∨X.env.scope.names.lookup x=some .local:=by first | exact .inl rfl | exact .inr rfl | assumption) :
 BZ X (.Assign [.Name x pos'] e pos) (il i f):=(wo hN hi hx he hs hf).imp fun D σ H h=>Ft h
noncomputable def lG(i:Nat)(f:av→R (List D)):FS:=fun δ=>(f δ).bind fun ds=>R.bC (decide (i < δ.length)) (.ok (.nx (δ.set i (.bld ds))))
theorem F8{K:PySem.W.Frag}{i:Nat}{f:av→R (List D)}{D:Ends}{σ:St}{H:Hp}(h:sD K (lG i f) D σ H):yI (tN K f) (p7 i) D σ H:=by
 obtain⟨Z,B,δ,o,E,hf,q⟩:=h
 obtain⟨ds,h1,h2⟩:=R.ak hf
 obtain⟨hi,h3⟩:=R.bj h2
 cases h3
 refine⟨Z,B,δ,ds,E,h1,fun a xs H1 s1 n e r=>?_⟩
 have E1:=E.same s1
 have aB:a ∉ B:=fun ha=>by obtain⟨o,ho⟩:=E.bs a ha;rw [n] at ho;cases ho
 have nZ:a ∉ Z:=fun ha=>aB (E.zb a ha)
 have p0:dM B H (a ::B) H1:=fun b o e' nb=>⟨s1 b o e',fun hb=>by
  rcases List.mem_cons.mp hb with z | z
  ·subst z;rw [n] at e';cases e'
  ·exact nb z⟩
 have E2:dX K Z (a ::B) H1 σ δ:={
  len:=E.len
  bs:=fun b hb=>by
   rcases List.mem_cons.mp hb with z | z
   ·subst z;exact⟨_,e⟩
   ·exact E1.bs b z
  zb:=fun b hb=>List.mem_cons_of_mem _ (E.zb b hb)
  val:=fun j d e=>let⟨v,q1,q2⟩:=E.val j d e;⟨v,q1,q2.bp p0⟩
  bld:=fun j es e=>let⟨b,ys,q1,q2,q3,q4,q5⟩:=E.bld j es e;⟨b,ys,q1,List.mem_cons_of_mem _ q2,q3,s1 b _ q4,q5.bp p0⟩
  dis:=E.dis}
 refine q _ (a ::B) H1 ⟨p0,fun b o e' hb=>⟨s1 b o e',List.mem_cons_of_mem _ (E.zb b hb)⟩⟩ (E2.setB (by rw[←E.len];exact of_decide_eq_true hi) List.mem_cons_self nZ e r fun j es hj ej hσ=>?_)
 obtain⟨b,ys,q1,_,_,q4,_⟩:=E.bld j es ej
 rw[hσ] at q1
 cases q1
 rw[n] at q4;cases q4
theorem DF{i:Nat}{x:Str}{e:Expr}{f:av→R (List D)}{pos pos':Pos}(hN:X.N.Nodup)(hi:X.N[i]? =some x)(hx:Loc X.env.scope x)(he:PN X e f)(hs:swapsWith e (some (.Name x pos')) pos.line X.env=pure false:=by rfl)(hf:X.fn x=true∨X.env.scope.names.lookup x=some .local:=by first | exact .inl rfl | exact .inr rfl | assumption) :
 BZ X (.Assign [.Name x pos'] e pos) (lG i f):=(wo hN hi hx he hs hf).imp fun D σ H h=>F8 h
theorem dX.grow{K:PySem.W.Frag}{Z B:List Addr}{H:Hp}{σ:St}{δ:av}(E:dX K Z B H σ δ){i:Nat}{ds es:List D}{a:Addr}{xs ys:List V}(hd:δ[i]? =some (.bld ds))(hσ:σ[i]? =some (some (.ref a)))(hB:a∈B)(hH:H a=some (.lst xs))(r:aF K B H es ys) :
 dX K Z B (upd H a (.lst ys)) σ (δ.set i (.bld es))∧dM B H B (upd H a (.lst ys)):=by
 have p:dM B H B (upd H a (.lst ys)):=fun b o e nb=>⟨by rw[ba (fun(z:b=a)=>nb (by rw[z];exact hB))];exact e,nb⟩
 have hi:i < δ.length:=(List.getElem?_eq_some_iff.mp hd).1
 refine⟨{
  len:=by rw[List.length_set];exact E.len
  bs:=fun b hb=>by
   by_cases z:b=a
   ·subst z;exact⟨_,bc⟩
   ·rw[ba z];exact E.bs b hb
  zb:=E.zb
  val:=fun j d e=>by
   by_cases h:i=j
   ·subst h;rw [List.getElem?_set_self hi] at e;cases e
   ·rw[List.getElem?_set_ne h] at e
    obtain⟨v,q1,q2⟩:=E.val j d e
    exact⟨v,q1,q2.bp p⟩
  bld:=fun j fs e=>by
   by_cases h:i=j
   ·subst h;rw [List.getElem?_set_self hi] at e;cases e
    obtain⟨b,zs,q1,q2,q3,_,_⟩:=E.bld i ds hd
    rw[hσ] at q1;cases q1
    exact⟨a,ys,hσ,hB,q3,bc,r.bp p⟩
   ·rw[List.getElem?_set_ne h] at e
    obtain⟨b,zs,q1,q2,q3,q4,q5⟩:=E.bld j fs e
    have ne:b≠a:=fun z=>by subst z;exact h (E.dis i j b ds fs hd e hσ q1)
    exact⟨b,zs,q1,q2,q3,by rw[ba ne];exact q4,q5.bp p⟩
  dis:=fun j k b ds1 es1 e1 e2 e3 e4=>by
   have f1:∃fs,δ[j]? =some (.bld fs):=by
    by_cases h:i=j
    ·subst h;exact⟨ds,hd⟩
    ·rw[List.getElem?_set_ne h] at e1;exact⟨_,e1⟩
   have f2:∃fs,δ[k]? =some (.bld fs):=by
    by_cases h:i=k
    ·subst h;exact⟨ds,hd⟩
    ·rw[List.getElem?_set_ne h] at e2;exact⟨_,e2⟩
   obtain⟨_,f1⟩:=f1
   obtain⟨_,f2⟩:=f2
   exact E.dis j k b _ _ f1 f2 e3 e4},p⟩
theorem Ev.grow{Z B:List Addr}{H:Hp}{a:Addr}{o:HO}(zb:∀a∈Z,a∈B)(hZ:a ∉ Z)(p:dM B H B (upd H a o)):Ev Z B H B (upd H a o):=
 ⟨p,fun b u e hb=>⟨by rw[ba (fun(z:b=a)=>hZ (by rw[←z];exact hb))];exact e,zb b hb⟩⟩
noncomputable def iZ(δ:av)(i:Nat):R (List D):=match δ[i]? with | some (.bld ds)=> .ok ds | _=> .no
theorem BR{δ:av}{i:Nat}{ds:List D}(h:iZ δ i= .ok ds):δ[i]? =some (.bld ds):=by
 unfold iZ at h
 split at h
 ·rename_i q;cases h;exact q
 ·cases h
noncomputable def l0(i:Nat)(f:FD):FS:=fun δ=>(f δ).bind fun d=>(iZ δ i).bind fun ds=>R.bC (decide (ds.length < sizeLine)) (.ok (.nx (δ.set i (.bld (ds++[d])))))
theorem De{i:Nat}{x:Str}{e:Expr}{f:FD}{npos apos cpos pos:Pos}(hN:X.N[i]? =some x)(hv:D0 X.env.scope x)(he:PD X e f)
 (hd:(x==("__debug__":Str))=false:=by decide) (hcd:(x==("__classdict__":Str))=false:=by decide)
 (hs:starEach [e] X.env=(false,eval e X.env) ::starEach [] X.env:=by rfl) (hline:(apos.endLine==cpos.line)=true:=by rfl)
 (hfew:((backTo cpos (starEach [e] X.env)).all (fun x=>!x.1) && (backToKw cpos (keywordEach [] X.env)).all (fun x=>x.1.isSome)
   && decide (([e]:List Expr).length+([]:List Keyword).length+(if([]:List Keyword).isEmpty then 0 else 1) < 30))=true:=by rfl)
 (hsw:swapsWith (.Call (.Attribute (.Name x npos) "append" apos) [e] [] cpos) none pos.line X.env=pure false:=by rfl)
 (hbase:attributeBase (.Name x npos) "append" X.env (eval (.Name x npos) X.env)=eval (.Name x npos) X.env:=by rfl) :
 BZ X (.Expr (.Call (.Attribute (.Name x npos) "append" apos) [e] [] cpos) pos) (l0 i f):=by
 refine(xO (Bz (X:=X) PySem.F.plainAttrs_list PySem.F.slot_list_append PySem.F.type_list_append nj (sg hN hv hd hcd) (gJ he jf hs) hbase hfew hline hs) hsw).imp fun D σ H ⟨Z,B,δ,o,E,hf,q⟩=>?_
 obtain⟨d,h1,h2⟩:=R.ak hf
 obtain⟨ds,h3,h4⟩:=R.ak h2
 obtain⟨hl,h5⟩:=R.bj h4
 cases h5
 have hb:=BR h3
 obtain⟨a,xs,q1,q2,q3,q4,q5⟩:=E.bld i ds hb
 refine⟨.ref a,q1, .inl ⟨rfl,xs,mD.of q4⟩,⟨Z,B,δ,d,E,h1,fun v H1 s1 r1=>?_⟩⟩
 have E1:=E.same s1
 refine⟨a,xs,v,rfl,rfl,s1 a _ q4,by rw[←q5.length];exact of_decide_eq_true hl,?_⟩
 obtain⟨E2,p2⟩:=E1.grow (es:=ds++[d]) (ys:=xs++[v]) hb q1 q2 (s1 a _ q4) ((q5.same s1).append (aF.cons r1 aF.nil))
 exact q σ B _ ((Ev.same E.zb s1).trans (Ev.grow E.zb q3 p2)) E2
noncomputable def vn(i:Nat)(f:av→R (List D)):FS:=fun δ=>(f δ).bind fun es=>(iZ δ i).bind fun ds=>R.bC (decide (ds.length+es.length≤sizeLine)) (.ok (.nx (δ.set i (.bld (ds++es)))))
noncomputable def iF(i:Nat)(δ:av):av:=match δ[i]? with | some (.bld ds)=>δ.set i (.val (.lst ds)) | _=>δ
theorem dX.iF{K:PySem.W.Frag}{Z B:List Addr}{H:Hp}{σ:St}{δ:av}(E:dX K Z B H σ δ)(i:Nat):∃B',Ev Z B H B' H∧dX K Z B' H σ (iF i δ):=by
 unfold L2.iF
 cases hd:δ[i]? with
 | none=>exact⟨B,Ev.refl Z B H E.zb,E⟩
 | some x=>
   cases x with
   | un=>exact⟨B,Ev.refl Z B H E.zb,E⟩
   | val d=>exact⟨B,Ev.refl Z B H E.zb,E⟩
   | bld ds=>
     obtain⟨a,xs,q1,q2,q3,q4,q5⟩:=E.bld i ds hd
     have hi:i < δ.length:=(List.getElem?_eq_some_iff.mp hd).1
     have p:dM B H (B.filter fun b=>decide (b≠a)) H:=fun b o e nb=>⟨e,fun hb=>nb (List.mem_filter.mp hb).1⟩
     have zb:∀b∈Z,b∈B.filter fun b=>decide (b≠a):=fun b hb=>List.mem_filter.mpr ⟨E.zb b hb,decide_eq_true fun z=>q3 (z▸hb)⟩
     refine⟨B.filter fun b=>decide (b≠a),⟨p,fun b o e hb=>⟨e,zb b hb⟩⟩,{
      len:=by rw[List.length_set];exact E.len
      bs:=fun b hb=>E.bs b (List.mem_filter.mp hb).1
      zb:=zb
      val:=fun j d e=>by
       by_cases h:i=j
       ·subst h;rw [List.getElem?_set_self hi] at e;cases e
        refine⟨.ref a,q1,?_⟩
        unfold Rep
        exact⟨a,xs,rfl, .inl ⟨fun hb=>by simpa using(List.mem_filter.mp hb).2, .inl q4⟩,q5.bp p⟩
       ·rw[List.getElem?_set_ne h] at e
        obtain⟨v,z1,z2⟩:=E.val j d e
        exact⟨v,z1,z2.bp p⟩
      bld:=fun j fs e=>by
       by_cases h:i=j
       ·subst h;rw [List.getElem?_set_self hi] at e;cases e
       ·rw[List.getElem?_set_ne h] at e
        obtain⟨b,zs,z1,z2,z3,z4,z5⟩:=E.bld j fs e
        exact⟨b,zs,z1,List.mem_filter.mpr ⟨z2,decide_eq_true fun z=>by subst z;exact h (E.dis i j b ds fs hd e q1 z1)⟩,z3,z4,z5.bp p⟩
      dis:=fun j k b ds1 es1 e1 e2 e3 e4=>by
       by_cases h:i=j
       ·subst h;rw [List.getElem?_set_self hi] at e1;cases e1
       ·by_cases h':i=k
        ·subst h';rw [List.getElem?_set_self hi] at e2;cases e2
        ·rw[List.getElem?_set_ne h] at e1
         rw[List.getElem?_set_ne h'] at e2
         exact E.dis j k b ds1 es1 e1 e2 e3 e4}⟩
noncomputable def nk(i:Nat)(F:FS):FS:=fun δ=>F (iF i δ)
theorem FC{K:PySem.W.Frag}{i:Nat}{F:FS}{D:Ends}{σ:St}{H:Hp}(h:sD K (nk i F) D σ H):sD K F D σ H:=by
 obtain⟨Z,B,δ,o,E,hf,q⟩:=h
 obtain⟨B1,ev,E1⟩:=E.iF i
 refine⟨Z,B1,L2.iF i δ,o,E1,hf,?_⟩
 cases o with
 | nx δ'=>exact fun σ' B' H' ev' E'=>q σ' B' H' (ev.trans ev') E'
 | rt d=>exact fun v B' H' ev' z r=>q v B' H' (ev.trans ev') z r
theorem Dy(i:Nat){sts:List Stmt}{F:FS}(h:oR X sts F):oR X sts (nk i F):=h.imp fun D σ H h=>FC h
noncomputable def dQ(f:FD):FS:=fun δ=>(f δ).bind fun d=> .ok (.rt d)
theorem Dx{e:Expr}{f:FD}{pos:Pos}(he:PD X e f):BZ X (.Return (some e) pos) (dQ f):=(zR he).imp fun D σ H ⟨Z,B,δ,o,E,hf,q⟩=>by
 obtain⟨d,h1,h2⟩:=R.ak hf
 cases h2
 exact⟨Z,B,δ,d,E,h1,fun v H1 s1 r1=>q v B H1 (Ev.same E.zb s1) E.zb r1⟩
noncomputable def mr(c:av→R Bool)(F G:FS):FS:=fun δ=>(c δ).bind fun b=>if b then F δ else G δ
theorem FL{c:Expr}{a b:List Stmt}{fc:av→R Bool}{F G:FS}{pos:Pos}(hc:PB X c fc)(ha:oR X a F)(hb:oR X b G):BZ X (.If c a b pos) (mr fc F G):=(Ed hc ha hb).imp fun D σ H ⟨Z,B,δ,o,E,hf,q⟩=>by
 obtain⟨k,h1,h2⟩:=R.ak hf
 refine⟨Z,B,δ,k,E,h1,fun H1 s1=>?_⟩
 have q':=q.ev (Ev.same E.zb s1)
 cases k with
 | true=>rw [if_pos rfl] at h2;exact BL ⟨Z,B,δ,o,E.same s1,h2,q'⟩
 | false=>rw [if_neg (by decide)] at h2;exact zG ⟨Z,B,δ,o,E.same s1,h2,q'⟩
noncomputable abbrev FT:=D→av→R av
noncomputable def gD(K:PySem.W.Frag)(t:FT):TG:=fun v σ H Q=>∃Z B δ d δ',dX K Z B H σ δ∧Rep K B H d v∧t d δ= .ok δ'∧∀σ' H',aQ H H'→dX K Z B H' σ' δ'→σ'.length=σ.length→Q σ' H'
noncomputable abbrev Fj(X:Cx)(tg:Expr)(t:FT):Prop:=PG X tg (gD X.K t)
noncomputable def aJ(i:Nat):FT:=fun d δ=>R.bC (decide (i < δ.length)) (.ok (δ.set i (.val d)))
theorem AV{i:Nat}{x:Str}{pos:Pos}(hN:X.N.Nodup)(hi:X.N[i]? =some x)(hx:Loc X.env.scope x)(hf:X.fn x=true∨X.env.scope.names.lookup x=some .local:=by first | exact .inl rfl | exact .inr rfl | assumption):Fj X (.Name x pos) (aJ i):=
 (yg hN hi hx hf).imp fun v σ H Q ⟨Z,B,δ,d,δ',E,r,ht,q⟩=>by
   obtain⟨hi,h⟩:=R.bj ht
   cases h
   exact q _ H (aQ.refl H) (E.set (by rw[←E.len];exact of_decide_eq_true hi) r) (List.length_set ..)
noncomputable abbrev AG:=List D→av→R av
noncomputable def KG(K:PySem.W.Frag)(t:AG):BH:=fun vs σ H Q=>∃Z B δ ds δ',dX K Z B H σ δ∧aF K B H ds vs∧t ds δ= .ok δ'∧∀σ' H',aQ H H'→dX K Z B H' σ' δ'→σ'.length=σ.length→Q σ' H'
noncomputable abbrev Au(X:Cx)(ts:List Expr)(t:AG):Prop:=CM X ts (KG X.K t)
theorem CM.imp{X:Cx}{e:List Expr}{t t':BH}(h:CM X e t)(w:∀v σ H Q,t' v σ H Q→t v σ H Q):CM X e t':=fun pins s σ H v u Q I r hq=>h pins s σ H v u Q I r (w v σ H Q hq)
noncomputable def fU:AG:=fun ds δ=>match ds with | []=> .ok δ | _=> .no
noncomputable def b_(t:FT)(u:AG):AG:=fun ds δ=>match ds with | d ::r=>(t d δ).bind fun δ'=>u r δ' | []=> .no
theorem Ay:Au X [] fU:=xB.imp fun vs σ H Q ⟨Z,B,δ,ds,δ',E,r,ht,q⟩=>by
 cases ds with
 | nil=>unfold aF at r;cases ht;exact⟨r,q σ H (aQ.refl H) E rfl⟩
 | cons=>cases ht
theorem y7{e:Expr}{es:List Expr}{t:FT}{u:AG}(h1:Fj X e t)(h2:Au X es u)(hs:(assignEach (e ::es) X.env).map (·.2)=assign e X.env ::(assignEach es X.env).map (·.2):=by rfl):Au X (e ::es) (b_ t u):=
 (uz h1 h2 hs).imp fun vs σ H Q ⟨Z,B,δ,ds,δ',E,r,ht,q⟩=>by
   cases ds with
   | nil=>cases ht
   | cons d ds=>
     obtain⟨x,xs,rfl,r1,r2⟩:=r.cn
     obtain⟨δ1,h1,h2⟩:=R.ak ht
     exact⟨x,xs,rfl,Z,B,δ,d,δ1,E,r1,h1,fun σ1 H1 s1 E1 l1=>⟨Z,B,δ1,ds,δ',E1,r2.same s1,h2,fun σ2 H2 s2 E2 l2=>q σ2 H2 (s1.trans s2) E2 (l2.trans l1)⟩⟩
noncomputable def fS(n:Nat)(t:AG):FT:=fun d δ=>match d with | .tup ds=>R.bC (decide (ds.length=n)) (t ds δ) | _=> .no
theorem Cd{es:List Expr}{k:Nat}{t:AG}{n:Nat}{pos:Pos}(hc:X.calm=true)(h:Au X es t)(hn:(assignEach es X.env).length=n:=by rfl)(hst:(assignEach es X.env).findIdx? (·.1)=none:=by rfl):Fj X (.Tuple es k pos) (fS n t):=
 (A4 hc h hn hst).imp fun v σ H Q ⟨Z,B,δ,d,δ',E,r,ht,q⟩=>by
   cases d with
   | tup ds=>
     unfold Rep at r
     obtain⟨a,xs,rfl,l,r⟩:=r
     obtain⟨hl,h⟩:=R.bj ht
     exact⟨a,xs,rfl,l.sq,by rw[←r.length];exact of_decide_eq_true hl,Z,B,δ,ds,δ',E,r,h,q⟩
   | _=>cases ht
noncomputable def oI(f:FD)(t:FT):FS:=fun δ=>(f δ).bind fun d=>(t d δ).bind fun δ'=> .ok (.nx δ')
theorem C2{tg e:Expr}{f:FD}{t:FT}{pos:Pos}(he:PD X e f)(hg:Fj X tg t)(hs:swapsWithSole [tg] e pos.line X.env=pure false:=by rfl)(hw:swappedStores [tg] e X.env=pure none:=by rfl)
 (h1:(assignEach [tg] X.env).map (·.2)=[assign tg X.env]:=by rfl):BZ X (.Assign [tg] e pos) (oI f t):=(BN he hg hs hw h1).imp fun D σ H ⟨Z,B,δ,o,E,hf,q⟩=>by
 obtain⟨d,h1,h2⟩:=R.ak hf
 obtain⟨δ1,h3,h4⟩:=R.ak h2
 cases h4
 exact⟨Z,B,δ,d,E,h1,fun v H1 s1 r1=>⟨Z,B,δ,d,δ1,E.same s1,r1,h3,fun σ' H2 s2 E2 _=>q σ' B H2 (Ev.same E.zb (s1.trans s2)) E2⟩⟩
noncomputable def Bu(K:PySem.W.Frag)(B:List Addr)(H:Hp)(J:It)(ds:List D):Prop:=∀B' H',dM B H B' H'→(∀(i:Nat) (d:D),ds[i]? =some d→J.go i H'∧∀x H'',J.yld i H' x H''→(∀a∈B',∃o,H' a=some o)→aQ H' H''∧Rep K B' H'' d x)∧J.stop ds.length H'
noncomputable def iD(K:PySem.W.Frag)(f:av→R (List D)):TI:=fun σ H R=>∃Z B δ ds,dX K Z B H σ δ∧f δ= .ok ds∧∀J H1,aQ H H1→Bu K B H1 J ds→R J H1
noncomputable abbrev GJ(X:Cx)(tg e:Expr)(f:av→R (List D)):Prop:=PI X tg e (iD X.K f)
noncomputable def et(f:FD):av→R (List D):=fun δ=>(f δ).bind fun d=>match d with | .lst ds=> .ok ds | .tup ds=> .ok ds | _=> .no
theorem DC{tg e:Expr}{f:FD}(h:PD X e f):GJ X tg e (et f):=by
 intro pins s σ H RR I ⟨Z,B,δ,ds,E,hf,q⟩
 obtain⟨d,h1,h2⟩:=R.ak hf
 refine d5 (h pins s σ H (fun v H1=>aQ H H1∧Rep X.K B H1 d v) I ⟨Z,B,δ,d,E,h1,fun v H1 s1 r1=>⟨s1,r1⟩⟩) fun v s1 ⟨x,H1,I1,r1,ss,rr⟩=>?_
 cases d with
 | lst es=>
   cases h2
   unfold Rep at rr
   obtain⟨a,xs,rfl,l,rr⟩:=rr
   cases r1
   obtain⟨its,rv,p,hz⟩:=I1.list l.sq
   refine wpAny_pyIter_list p.isList ?_
   refine⟨s1.heap.objs.size,[s1.heap.objs.size],_,_,H1,rfl,I1.kept (t':=s1.toks) fun b o e=>Heap.get?_push_of_some _ e,qZ a _,⟨_,Heap.get?_push_size _ rfl,rfl,rfl⟩,fun b hb=>?_,q _ H1 ss fun B' H' pr=>?_⟩
   ·have e:b=s1.heap.objs.size:=by simpa using hb
    subst e
    exact I1.qF (Nat.le_refl _) (I1.hok.fresh (Nat.le_refl _))
   ·have l':qN X.K B' H' a xs:=l.bp pr
    have rr':=rr.bp pr
    refine⟨fun i d hd=>?_,⟨xs,l'.sq,by rw[rr.length];exact Nat.le_refl _⟩⟩
    obtain⟨x,hx,rx⟩:=rr'.get hd
    exact⟨⟨xs,x,l'.sq,hx⟩,fun y H'' ⟨e1,e2⟩ _=>by
     subst e1
     have:=e2 xs l'.sq
     rw[hx] at this
     cases this
     exact⟨aQ.refl _,rx⟩⟩
 | tup es=>
   cases h2
   unfold Rep at rr
   obtain⟨a,xs,rfl,l,rr⟩:=rr
   cases r1
   obtain⟨its,rv,p,hz⟩:=I1.tuple l.sq
   refine wpAny_pyIter_tuple (show s1.heap.IsTuple a its.toArray from p) ?_
   refine⟨s1.heap.objs.size,[s1.heap.objs.size],_,_,H1,rfl,I1.kept (t':=s1.toks) fun b o e=>Heap.get?_push_of_some _ e,vI a _,⟨_,Heap.get?_push_size _ rfl,rfl,rfl⟩,fun b hb=>?_,q _ H1 ss fun B' H' pr=>?_⟩
   ·have e:b=s1.heap.objs.size:=by simpa using hb
    subst e
    exact I1.qF (Nat.le_refl _) (I1.hok.fresh (Nat.le_refl _))
   ·have l':rf X.K B' H' a xs:=l.elim (fun z=> .inl ⟨(pr.rd z.2 z.1).2,(pr.rd z.2 z.1).1⟩) .inr
    have rr':=rr.bp pr
    refine⟨fun i d hd=>?_,⟨xs,l'.sq,by rw[rr.length];exact Nat.le_refl _⟩⟩
    obtain⟨x,hx,rx⟩:=rr'.get hd
    exact⟨⟨xs,x,l'.sq,hx⟩,fun y H'' ⟨e1,e2⟩ _=>by
     subst e1
     have:=e2 xs l'.sq
     rw[hx] at this
     cases this
     exact⟨aQ.refl _,rx⟩⟩
 | _=>cases h2
noncomputable def cc(lo:Int)(n:Nat):List D:=(List.range n).map fun(i:Nat)=>D.int (lo+i)
theorem zB{K:PySem.W.Frag}{B:List Addr}{H:Hp}(lo:Int)(n:Nat):Bu K B H (GL lo n) (cc lo n):=fun B' H' _=>by
 refine⟨fun i d hd=>?_,?_⟩
 ·unfold cc at hd
  rw[List.getElem?_map] at hd
  cases e:(List.range n)[i]? with
  | none=>rw [e] at hd;cases hd
  | some j=>
    rw[e] at hd
    cases hd
    obtain⟨hi,ej⟩:=List.getElem?_eq_some_iff.mp e
    rw[List.getElem_range] at ej
    subst ej
    rw[List.length_range] at hi
    exact⟨hi,fun x H'' ⟨e1,e2⟩ _=>by subst e1 e2;exact⟨aQ.refl _,by unfold Rep;rfl⟩⟩
 ·show n≤(cc lo n).length
  unfold cc
  rw[List.length_map,List.length_range]
  exact Nat.le_refl _
noncomputable def dn(f:FD):av→R (List D):=fun δ=>(f δ).bind fun d=>match d with | .int j=>R.bC (decide (-(2 ^ 62)≤j∧j < 2 ^ 62)) (.ok (cc 0 j.toNat)) | _=> .no
theorem we{tg a:Expr}{f:FD}{p pos:Pos}(h:PD X a f)(hg:Gl X "range")(hm:X.mg "range"=none)(hs:starEach [a] X.env=[(false,eval a X.env)]:=by rfl):GJ X tg (.Call (.Name "range" p) [a] [] pos) (dn f):=
 (rB hg hm (gJ h jf hs) hs).imp fun σ H RR ⟨Z,B,δ,ds,E,hf,q⟩=>by
   obtain⟨d,h1,h2⟩:=R.ak hf
   cases d with
   | int j=>
     obtain⟨hb,h3⟩:=R.bj h2
     cases h3
     have hb:=of_decide_eq_true hb
     refine⟨Z,B,δ, .int j,E,h1,fun v H1 s1 r1=>⟨j,?_,hb.1,hb.2,q _ H1 s1 (zB 0 _)⟩⟩
     unfold Rep at r1
     rw[r1]
   | _=>cases h2
noncomputable def JK(f g:FD):av→R (List D):=fun δ=>(f δ).bind fun d=>(g δ).bind fun e=>match d,e with
 | .int i, .int j=>R.bC (decide (-(2 ^ 62)≤i∧i < 2 ^ 62∧ -(2 ^ 62)≤j∧j < 2 ^ 62)) (.ok (cc i (j - i).toNat)) | _,_=> .no
noncomputable def ll(t:FT)(body:FS):List D→FS
 | [],δ=> .ok (.nx δ)
 | d ::ds,δ=>(t d δ).bind fun δ1=>(body δ1).bind fun o=>match o with | .nx δ2=>ll t body ds δ2 | .rt r=> .ok (.rt r)
noncomputable def mE(it:av→R (List D))(t:FT)(body:FS):FS:=fun δ=>(it δ).bind fun ds=>ll t body ds δ
theorem DR{tg iter:Expr}{body:List Stmt}{it:av→R (List D)}{t:FT}{F:FS}{pos:Pos}(hp:PassesOwn (model X.prog X.w) X.A X.env X.xe)(hc:X.calm=true)(hi:GJ X tg iter it)(hg:Fj X tg t)(hb:oR X body F)
 (hs:∀x,foldedSetIterable iter X.env x=pure x:=by intro _;rfl):BZ X (.For tg iter body [] pos) (mE it t F):=(Bd hp hc hi hg hb hs).imp fun D σ H ⟨Z,B,δ,o,E,hf,q⟩=>by
 obtain⟨ds,h1,h2⟩:=R.ak hf
 refine⟨Z,B,δ,ds,E,h1,fun J H1 s1 ir=>?_⟩
 refine⟨fun i m σ' H'=>m=ds.length - i∧i≤ds.length∧∃B' δ',Ev Z B H1 B' H'∧dX X.K Z B' H' σ' δ'∧ll t F (ds.drop i) δ'= .ok o,⟨ds.length,rfl,Nat.zero_le _,B,δ,Ev.refl Z B H1 E.zb,E.same s1,by simpa using h2⟩,?_⟩
 rintro i m σ' H' ⟨rfl,hi,B',δ',ev,E',hl⟩
 obtain⟨go,stop⟩:=ir B' H' ev.bp
 by_cases hlt:i < ds.length
 ·have hd:ds[i]? =some ds[i]:=List.getElem?_eq_getElem hlt
  have hdrop:ds.drop i=ds[i] ::ds.drop (i+1):=List.drop_eq_getElem_cons hlt
  rw[hdrop] at hl
  obtain⟨δ1,h3,h4⟩:=R.ak hl
  obtain⟨o1,h5,h6⟩:=R.ak h4
  obtain⟨g1,g2⟩:=go i _ hd
  refine .inr ⟨g1,fun σ2 H2=>∃B2 δ2,Ev Z B H1 B2 H2∧dX X.K Z B2 H2 σ2 δ2∧ll t F (ds.drop (i+1)) δ2= .ok o,fun σ2 H2 n=>⟨ds.length - (i+1),by omega,rfl,hlt,n⟩,fun x H'' y=>?_⟩
  obtain⟨ss,rr⟩:=g2 x H'' y E'.bs
  refine⟨Z,B',δ',ds[i],δ1,E'.same ss,rr,h3,fun σ2 H2 s2 E2 l2=>⟨Z,B',δ1,o1,E2,h5,?_⟩⟩
  have ev2:Ev Z B H1 B' H2:=ev.trans (Ev.same E'.zb (ss.trans s2))
  cases o1 with
  | nx δ2=>exact fun σ3 B3 H3 ev3 E3=>⟨B3,δ2,ev2.trans ev3,E3,h6⟩
  | rt d=>
    cases h6
    exact fun v B3 H3 ev3 z r=>q v B3 H3 ((Ev.same E.zb s1).trans (ev2.trans ev3)) z r
 ·have e:i=ds.length:=by omega
  subst e
  rw[List.drop_length] at hl
  cases hl
  exact .inl ⟨stop,q σ' B' H' ((Ev.same E.zb s1).trans ev) E'⟩
noncomputable def Be(c:av→R Bool)(body:FS):Nat→FS
 | 0,_=> .no
 | n+1,δ=>(c δ).bind fun b=>if b then(body δ).bind fun o=>match o with | .nx δ2=>Be c body n δ2 | .rt r=> .ok (.rt r) else .ok (.nx δ)
noncomputable def Jg(n:Nat)(c:av→R Bool)(body:FS):FS:=fun δ=>Be c body n δ
noncomputable def kj(δ:av)(i:Nat):Sl:=match δ[i]? with | some (.val d)=> .val d | _=> .un
noncomputable def oH(own:List Str)(kp:List Nat)(δ:av):av:=List.replicate own.length .un++kp.map (kj δ)
noncomputable def mz(t:FT)(c:av→R Bool)(f:FD)(δ:av):List D→R (List D)
 | []=> .ok []
 | d ::ds=>(t d δ).bind fun δ1=>(c δ1).bind fun b=>if b then(f δ1).bind fun y=>(mz t c f δ ds).bind fun ys=> .ok (y ::ys) else mz t c f δ ds
noncomputable def fu(it:av→R (List D))(t:FT)(c:av→R Bool)(f:FD)(own:List Str)(kp:List Nat):av→R (List D):=fun δ=>(it δ).bind fun ds=>R.bC (decide (ds.length≤sizeLine)) (mz t c f (oH own kp δ) ds)
theorem EN{K:PySem.W.Frag}{Z B B':List Addr}{H H':Hp}{σ:St}{δ:av}{own:List Str}{kp:List Nat}(E:dX K Z B H σ δ)(p:dM B H B' H')(hB:∀a∈B',∃o,H' a=some o):dX K [] B' H' (dN own kp σ) (oH own kp δ) where
 len:=by unfold dN oH;simp
 bs:=hB
 zb:=fun a ha=>by cases ha
 val:=fun i d e=>by
  unfold oH at e
  unfold dN
  by_cases hi:i < own.length
  ·rw[List.getElem?_append_left (by simpa using hi),List.getElem?_replicate] at e
   split at e <;> cases e
  ·rw[List.getElem?_append_right (by simpa using hi),List.length_replicate,List.getElem?_map] at e ⊢
   cases q:kp[i - own.length]? with
   | none=>rw [q] at e;cases e
   | some j=>
     rw[q] at e
     have e:kj δ j= .val d:=Option.some.inj e
     unfold kj at e
     split at e
     ·rename_i d' ed
      cases e
      obtain⟨v,h1,h2⟩:=E.val j d ed
      exact⟨v,by simp [h1],h2.bp p⟩
     ·cases e
 bld:=fun i ds e=>by
  unfold oH at e
  by_cases hi:i < own.length
  ·rw[List.getElem?_append_left (by simpa using hi),List.getElem?_replicate] at e
   split at e <;> cases e
  ·rw[List.getElem?_append_right (by simpa using hi),List.length_replicate,List.getElem?_map] at e
   cases q:kp[i - own.length]? with
   | none=>rw [q] at e;cases e
   | some j=>
     rw[q] at e
     have e:kj δ j= .bld ds:=Option.some.inj e
     unfold kj at e
     split at e <;> cases e
 dis:=fun i j a ds es e=>by
  unfold oH at e
  by_cases hi:i < own.length
  ·rw[List.getElem?_append_left (by simpa using hi),List.getElem?_replicate] at e
   split at e <;> cases e
  ·rw[List.getElem?_append_right (by simpa using hi),List.length_replicate,List.getElem?_map] at e
   cases q:kp[i - own.length]? with
   | none=>rw [q] at e;cases e
   | some j=>
     rw[q] at e
     have e:kj δ j= .bld ds:=Option.some.inj e
     unfold kj at e
     split at e <;> cases e
theorem Dp{K:PySem.W.Frag}{it:av→R (List D)}{t:FT}{c:av→R Bool}{f:FD}{own:List Str}{kp:List Nat}{σ:St}{H:Hp}{Q:VK}(h:tN K (fu it t c f own kp) σ H Q) :
 xg (iD K it) (gD K t) (Gv K c) (tD K f) own kp σ H Q:=by
 obtain⟨Z,B,δ,ds,E,hf,q⟩:=h
 obtain⟨es,h1,h2⟩:=R.ak hf
 obtain⟨hl,h3⟩:=R.bj h2
 have hl:=of_decide_eq_true hl
 refine⟨Z,B,δ,es,E,h1,fun J H1 s1 ir Dd hD=>?_⟩
 have E1:=E.same s1
 have pD:dM B H1 (Dd ::B) (upd H1 Dd (.lst [])):=uY hD
 refine⟨fun i m ys H'=>m=es.length - i∧i≤es.length∧ys.length≤i∧H' Dd=some (.lst ys)∧aQ H1 H'∧∃done rest,ds=done++rest∧aF K (Dd ::B) H' done ys∧mz t c f (oH own kp δ) (es.drop i)= .ok rest,
  ⟨es.length,rfl,Nat.zero_le _,Nat.le_refl _,bc,bo hD,[],ds,rfl,aF.nil,by simpa using h3⟩,?_⟩
 rintro i m ys H' ⟨rfl,hi,hy,hDl,ss,done,rest,rfl,rd,hc⟩
 have dB:Dd ∉ B:=fun hb=>by obtain⟨o,ho⟩:=E1.bs Dd hb;rw [hD] at ho;cases ho
 have p':dM B H1 (Dd ::B) H':=fun b o e nb=>⟨ss b o e,fun hb=>by
  rcases List.mem_cons.mp hb with z | z
  ·exact cC e hD z
  ·exact nb z⟩
 have hB':∀a∈Dd ::B,∃o,H' a=some o:=fun a ha=>by
  rcases List.mem_cons.mp ha with z | z
  ·subst z;exact⟨_,hDl⟩
  ·obtain⟨o,ho⟩:=E1.bs a z;exact⟨o,ss a o ho⟩
 obtain⟨go,stop⟩:=ir (Dd ::B) H' p'
 by_cases hlt:i < es.length
 ·have hd:es[i]? =some es[i]:=List.getElem?_eq_getElem hlt
  have hdrop:es.drop i=es[i] ::es.drop (i+1):=List.drop_eq_getElem_cons hlt
  rw[hdrop] at hc
  obtain⟨δ1,h4,h5⟩:=R.ak hc
  obtain⟨b,h6,h7⟩:=R.ak h5
  obtain⟨g1,g2⟩:=go i _ hd
  refine .inr ⟨g1,fun x H2 y=>?_⟩
  obtain⟨sy,ry⟩:=g2 x H2 y hB'
  have Ec:dX K [] (Dd ::B) H2 (dN own kp σ) (oH own kp δ):=EN E1 (p'.trans (dM.same sy)) fun a ha=>let⟨o,ho⟩:=hB' a ha;⟨o,sy a o ho⟩
  refine⟨[],Dd ::B,oH own kp δ,es[i],δ1,Ec,ry,h4,fun σ3 H3 s3 E3 _=>⟨[],Dd ::B,δ1,b,E3,h6,fun H4 s4=>?_⟩⟩
  have sAll:aQ H' H4:=sy.trans (s3.trans s4)
  cases b with
  | true=>
    rw[if_pos rfl] at h7
    refine BL ?_
    obtain⟨yv,h8,h9⟩:=R.ak h7
    obtain⟨rs,h10,h11⟩:=R.ak h9
    cases h11
    refine⟨[],Dd ::B,δ1,yv,E3.same s4,h8,fun v H5 s5 r5=>?_⟩
    have s':aQ H' H5:=sAll.trans s5
    have hD5:H5 Dd=some (.lst ys):=s' Dd _ hDl
    have pu:dM (Dd ::B) H5 (Dd ::B) (upd H5 Dd (.lst (ys++[v]))):=fun b o e nb=>⟨by rw[ba (fun(z:b=Dd)=>nb (by rw[z];exact List.mem_cons_self))];exact e,nb⟩
    refine⟨hD5,by omega,es.length - (i+1),by omega,rfl,hlt,by rw[List.length_append,List.length_singleton];omega,bc,fun b o e=>?_,done++[yv],rs,by simp,((rd.same s').append (aF.cons r5 aF.nil)).bp pu,h10⟩
    rw[ba (cC e hD)]
    exact s' b o (ss b o e)
  | false=>
    rw[if_neg (by decide)] at h7
    refine zG ?_
    exact⟨es.length - (i+1),by omega,rfl,hlt,by omega,sAll Dd _ hDl,ss.trans sAll,done,rest,rfl,rd.same sAll,h7⟩
 ·have e:i=es.length:=by omega
  subst e
  rw[List.drop_length] at hc
  cases hc
  rw[List.append_nil] at q
  exact .inl ⟨stop,q Dd ys H' (s1.trans ss) (s1.free hD) hDl rd⟩
theorem Dm{scope:Scope}{own:List Str}{kp:List Nat}{kn:List Str}{tg iter elt:Expr}{ifs:List Expr}{it:av→R (List D)}{t:FT}{c:av→R Bool}{f:FD}{pos:Pos}(hc:X.calm=true)(C:cf X scope own kp kn)(hi:GJ X tg iter it)
 (hg:∀fp s H,Fj (bJ X scope (own++kn) fp s H) tg t) (hif:∀fp s H,nM (bJ X scope (own++kn) fp s H) ifs (Gv X.K c)) (he:∀fp s H,PD (bJ X scope (own++kn) fp s H) elt f)
 (hs:∀x,foldedSetIterable iter X.env x=pure x:=by intro _;rfl):PN X (.ListComp elt [⟨tg,iter,ifs,0⟩] scope pos) (fu it t c f own kp):=
 (xf hc C hi hg hif he hs).imp fun σ H Q h=>Dp h
noncomputable def jH:av→R Bool:=fun _=> .ok true
theorem BJ:nM X [] (Gv X.K jH):=fun pins s σ H Q I ⟨Z,B,δ,b,E,hf,q⟩=>uc pins s σ H Q I (by cases hf;exact q H (aQ.refl H))
theorem DQ{e:Expr}{c:av→R Bool}(h:PB X e c):nM X [e] (Gv X.K c):=uh h
end
noncomputable def cY(N:List Str)(ds:List D):av:=ds.map .val++List.replicate (N.length - ds.length) .un
noncomputable def mj(N:List Str)(F:FS):List D→R D:=fun ds=>(F (cY N ds)).bind fun o=>match o with | .rt d=> .ok d | .nx _=> .ok .dk
theorem Ci{K:PySem.W.Frag}{B:List Addr}{H:Hp}{N:List Str}{ds:List D}{vs:List V}(hB:∀a∈B,∃o,H a=some o)(r:aF K B H ds vs):dX K B B H (start N vs) (cY N ds) where
 len:=by unfold start cY;simp [r.length]
 bs:=hB
 zb:=fun a ha=>ha
 val:=fun i d e=>by
  unfold cY at e
  unfold start
  by_cases hi:i < ds.length
  ·rw[List.getElem?_append_left (by simpa using hi),List.getElem?_map] at e
   cases q:ds[i]? with
   | none=>rw [q] at e;cases e
   | some d'=>
     rw[q] at e
     cases e
     obtain⟨x,h1,h2⟩:=r.get q
     exact⟨x,by rw[List.getElem?_append_left (by rw[List.length_map,←r.length];exact hi),List.getElem?_map,h1];rfl,h2⟩
  ·rw[List.getElem?_append_right (by simpa using hi),List.getElem?_replicate] at e
   split at e <;> cases e
 bld:=fun i es e=>by
  unfold cY at e
  by_cases hi:i < ds.length
  ·rw[List.getElem?_append_left (by simpa using hi),List.getElem?_map] at e
   cases q:ds[i]? with
   | none=>rw [q] at e;cases e
   | some d'=>rw [q] at e;cases e
  ·rw[List.getElem?_append_right (by simpa using hi),List.getElem?_replicate] at e
   split at e <;> cases e
 dis:=fun i j a es fs e=>by
  unfold cY at e
  by_cases hi:i < ds.length
  ·rw[List.getElem?_append_left (by simpa using hi),List.getElem?_map] at e
   cases q:ds[i]? with
   | none=>rw [q] at e;cases e
   | some d'=>rw [q] at e;cases e
  ·rw[List.getElem?_append_right (by simpa using hi),List.getElem?_replicate] at e
   split at e <;> cases e
theorem Cj{P:Program}{w:World}{K:PySem.W.Frag}{mg:Str→Option Value}{base:Heap}{x qual:Str}{st:Stmt}{f:Addr}{fd:FuncData}{N ps:List Str}{k:Nat}{F:FS}(Fn:yc K x qual st f fd)(S:aY N ps (ae st))
 (hbody:∀(cdv:Value) (A:Around) (outer:List Env) (s:Shared) (H:Hp) (E:XK),eI k (A.deeper (envOfC qual (ae st) s.heap.objs.size f cdv))→
   oR (qg qQ P w K mg base N qual (ae st) f cdv A outer s H E).C9 (ai st) F):hJ P w K mg base qQ (k+1) f fd ps (Bq K ps.length (mj N F)):=by
 refine Fn.ok S (fun vs H Q E h=>h.1) (fun cdv A outer s H vs Q E hr h=>⟨_,hbody cdv A outer s H E hr,?_⟩)
 obtain⟨_,B,ds,d,hB,r,hg,q⟩:=h
 obtain⟨o,h1,h2⟩:=R.ak hg
 refine⟨B,B,cY N ds,o,Ci hB r,h1,?_⟩
 have sm:∀{B':List Addr} {H':Hp},Ev B B H B' H'→aQ H H':=fun {B' H'} ev b u e=>by
  by_cases hb:b∈B
  ·exact(ev.zs b u e hb).1
  ·exact(ev.bp b u e hb).1
 cases o with
 | nx δ'=>
   cases h2
   exact fun σ' B' H' ev _=>q _ H' (sm ev) (by unfold Rep;rfl)
 | rt d'=>
   cases h2
   exact fun v B' H' ev z rr=>q v H' (sm ev) (rr.bp fun b o e nb=>⟨e,fun hb=>nb (z b hb)⟩)
end L2
end
section
set_option maxRecDepth 100000
set_option maxHeartbeats 4000000
namespace L2
open PySem PySem.Spec PyProof.Rows
theorem Rep.int{K:PySem.W.Frag}{B:List Addr}{H:Hp}{i:Int}{v:V}:Rep K B H (.int i) v↔v= .int i:=by unfold Rep;exact Iff.rfl
theorem Rep.bl{K:PySem.W.Frag}{B:List Addr}{H:Hp}{i:Bool}{v:V}:Rep K B H (.bl i) v↔v= .bl i:=by unfold Rep;exact Iff.rfl
theorem Rep.str{K:PySem.W.Frag}{B:List Addr}{H:Hp}{i:Str}{v:V}:Rep K B H (.str i) v↔v= .str i:=by unfold Rep;exact Iff.rfl
theorem Rep.dk{K:PySem.W.Frag}{B:List Addr}{H:Hp}{v:V}:Rep K B H .dk v↔v= .dk:=by unfold Rep;exact Iff.rfl
theorem Rep.lst{K:PySem.W.Frag}{B:List Addr}{H:Hp}{ds:List D}{v:V}:Rep K B H (.lst ds) v↔∃a xs,v= .ref a∧qN K B H a xs∧aF K B H ds xs:=by rw[Rep]
theorem Rep.tup{K:PySem.W.Frag}{B:List Addr}{H:Hp}{ds:List D}{v:V}:Rep K B H (.tup ds) v↔∃a xs,v= .ref a∧rf K B H a xs∧aF K B H ds xs:=by rw[Rep]
section
variable {X:Cx}
theorem ke.of{f:Value→Value→Sem Value}{r:R2}{g:D→D→R D}(h:k6 X f r)
 (w:∀(B:List Addr) (H:Hp) (da db d:D) (x y:V) (Q:VK),(∀a∈B,∃o,H a=some o)→Rep X.K B H da x→Rep X.K B H db y→g da db= .ok d→(∀z H',aQ H H'→Rep X.K B H' d z→Q z H')→r x y H Q):ke X f g:=by
 intro pins s σ H B da db d x y v u I hb rx ry ra rb hg
 exact h pins s σ H x y v u _ I rx ry (w B H da db d x y _ hb ra rb hg fun z H' s1 r1=>⟨s1,r1⟩)
theorem cZ.of{f:Value}{r:List V→Hp→VK→Prop}{g:List D→R D}(h:kq X f r)
 (w:∀(B:List Addr) (H:Hp) (ds:List D) (d:D) (xs:List V) (Q:VK),(∀a∈B,∃o,H a=some o)→aF X.K B H ds xs→g ds= .ok d→(∀z H',aQ H H'→Rep X.K B H' d z→Q z H')→r xs H Q):cZ X f g:=by
 intro pins s σ H B ds d xs us I hb rx rs hg
 exact h pins s σ H xs us _ I rx (w B H ds d xs _ hb rs hg fun z H' s1 r1=>⟨s1,r1⟩)
theorem cZ.or{f:Value}{g g1 g2:List D→R D}(h1:cZ X f g1)(h2:cZ X f g2)(e:∀a d,g a= .ok d→g1 a= .ok d∨g2 a= .ok d):cZ X f g:=by
 intro pins s σ H B ds d xs us I hb rx rs hg
 rcases e ds d hg with q | q
 ·exact h1 pins s σ H B ds d xs us I hb rx rs q
 ·exact h2 pins s σ H B ds d xs us I hb rx rs q
noncomputable def tI(C:Int→Int→Bool)(g:Int→Int→Int):D→D→R D
 | .int i, .int j=>R.bC (C i j) (.ok (.int (g i j)))
 | _,_=> .no
theorem xS{f:Value→Value→Sem Value}{C:Int→Int→Bool}{Cp:Int→Int→Prop}{g:Int→Int→Int}(h:k6 X f (rI Cp fun i j=> .int (g i j)))(hc:∀i j,C i j=true→Cp i j):ke X f (tI C g):=
 ke.of h fun B H da db d x y Q _ ra rb hg q=>by
  unfold tI at hg
  split at hg
  ·obtain⟨h1,h2⟩:=R.bj hg
   cases h2
   exact⟨_,_,Rep.int.mp ra,Rep.int.mp rb,hc _ _ h1,q _ H (aQ.refl H) (Rep.int.mpr rfl)⟩
  ·cases hg
noncomputable def mS(g:Int→Int→Int):D→D→R D
 | .int i, .int j=> .ok (.int (g i j))
 | _,_=> .no
theorem sT{f:Value→Value→Sem Value}{g:Int→Int→Int}(h:k6 X f (zl fun i j=> .int (g i j))):ke X f (mS g):=
 ke.of h fun B H da db d x y Q _ ra rb hg q=>by
  unfold mS at hg
  split at hg
  ·cases hg
   exact⟨_,_,Rep.int.mp ra,Rep.int.mp rb,q _ H (aQ.refl H) (Rep.int.mpr rfl)⟩
  ·cases hg
noncomputable def yb(g:Int→Int→Bool):D→D→R D
 | .int i, .int j=> .ok (.bl (g i j))
 | _,_=> .no
theorem zu{f:Value→Value→Sem Value}{g:Int→Int→Bool}(h:k6 X f (zl fun i j=> .bl (g i j))):ke X f (yb g):=
 ke.of h fun B H da db d x y Q _ ra rb hg q=>by
  unfold yb at hg
  split at hg
  ·cases hg
   exact⟨_,_,Rep.int.mp ra,Rep.int.mp rb,q _ H (aQ.refl H) (Rep.bl.mpr rfl)⟩
  ·cases hg
noncomputable abbrev jr:D→D→R D:=mS fun i j=>i - j
theorem ox:ke X (binaryOp .Sub) jr:=sT Gg
noncomputable abbrev oq:D→D→R D:=tI (fun _ j=>decide (0 < j∧j < 1073741824)) fun i j=>i / j
noncomputable abbrev gQ:D→D→R D:=tI (fun _ j=>decide (0 < j)) fun i j=>i % j
theorem j4:ke X (binaryOp .Mod) gQ:=xS EK fun i j h=>of_decide_eq_true h
noncomputable abbrev pY:D→D→R D:=tI (fun i j=>decide (0≤j∧j≤1000000∧i.natAbs < 2 ^ 64)) fun i j=>i ^ j.toNat
theorem DY:ke X (binaryOp .Pow) pY:=xS EX fun i j h=>(of_decide_eq_true h:0≤j∧j≤1000000∧i.natAbs < 2 ^ 64)
noncomputable abbrev nL:D→D→R D:=tI (fun _ j=>decide (0≤j)) fun i j=>i / 2 ^ j.toNat
theorem Ha:ke X (binaryOp .RShift) nL:=xS Fc fun i j h=>of_decide_eq_true h
noncomputable abbrev zp:D→D→R D:=mS fun i j=>Builtin.bitAnd i j
theorem u6:ke X (binaryOp .BitAnd) zp:=sT FI
noncomputable abbrev BW:D→D→R D:=mS fun i j=>Builtin.bitOr i j
theorem u9:ke X (binaryOp .BitOr) BW:=sT GS
noncomputable abbrev zk:D→D→R D:=mS fun i j=>Builtin.bitXor i j
theorem uu:ke X (binaryOp .BitXor) zk:=sT Gx
noncomputable abbrev zr:D→D→R D:=yb fun i j=>decide (i < j)
theorem G4:ke X (compareOp .Lt) zr:=zu HF
noncomputable abbrev Ei:D→D→R D:=yb fun i j=>decide (i≤j)
noncomputable abbrev zE:D→D→R D:=yb fun i j=>decide (j < i)
theorem HN:ke X (compareOp .Gt) zE:=zu Hs
noncomputable abbrev BU:D→D→R D:=yb fun i j=>decide (j≤i)
theorem IG:ke X (compareOp .GtE) BU:=zu HQ
theorem qN.Ag{K:PySem.W.Frag}{B:List Addr}{H:Hp}{a:Addr}{xs:List V}(h:H a=some (.lst xs))(n:a ∉ B):qN K B H a xs:= .inl ⟨n, .inl h⟩
theorem Inv.GA{pins:List (Addr × Obj)}{σ:St}{H:Hp}{s:Shared}{a:Addr}{xs:List V}{B:List Addr}(I:Inv X pins σ H s)(h:qN X.K B H a xs):∃(its:List Value) (n:Nat),Vals xs its∧s.heap.get? a=some {cls:= .type "list",data:= .seq its.toArray n}∧xs.length≤sizeLine:=by
 rcases h with⟨_,h⟩ | ⟨its,n,hk,hz,r⟩
 ·obtain⟨z,its,n,r,e⟩:=h.ok I.hok
  exact⟨its,n,r,e,z⟩
 ·exact⟨its,n,r,I.xA a _ hk,hz⟩
theorem CK:k6 X (binaryOp .Add) (fun x y H Q=>∃B l b xs zs,x= .ref l∧y= .ref b∧qN X.K B H l xs∧qN X.K B H b zs∧xs.length+zs.length≤sizeLine∧∀p,H p=none→Q (.ref p) (upd H p (.lst (xs++zs)))):=by
 intro pins s σ H x y v u Q I rx ry h
 obtain⟨B,l,b,xs,zs,rfl,rfl,hH,hB,hz,q⟩:=h
 cases rx
 cases ry
 obtain⟨its,n,r,e,_⟩:=I.GA hH
 obtain⟨its2,n2,r2,e2,_⟩:=I.GA hB
 have l1:=r.length
 have l2:=r2.length
 refine PySem.P.add_list e e2 ?_ (by rw[List.size_toArray,List.size_toArray];omega)
 have ea:its.toArray++its2.toArray=(its++its2).toArray:=by simp
 rw[ea]
 exact⟨.ref _,_,I.Et (t':=s.toks) (r.append r2) (by rw[List.length_append];omega),rfl,q _ I.fresh⟩
noncomputable def eE:D→D→R D
 | .int i, .int j=> .ok (.int (i+j))
 | .str a, .str b=>R.bC (decide (a.length+b.length≤sizeLine)) (.ok (.str (a++b)))
 | .lst a, .lst b=>R.bC (decide (a.length+b.length≤sizeLine)) (.ok (.lst (a++b)))
 | _,_=> .no
theorem gx:ke X (binaryOp .Add) eE:=by
 intro pins s σ H B da db d x y v u I hb rx ry ra rb hg
 unfold eE at hg
 split at hg
 ·cases hg
  exact FV pins s σ H x y v u _ I rx ry ⟨_,_,Rep.int.mp ra,Rep.int.mp rb,aQ.refl H,Rep.int.mpr rfl⟩
 ·obtain⟨h1,h2⟩:=R.bj hg
  cases h2
  exact vG pins s σ H x y v u _ I rx ry ⟨_,_,Rep.str.mp ra,Rep.str.mp rb,of_decide_eq_true h1,aQ.refl H,Rep.str.mpr rfl⟩
 ·obtain⟨h1,h2⟩:=R.bj hg
  cases h2
  obtain⟨a1,xs1,rfl,l1,r1⟩:=Rep.lst.mp ra
  obtain⟨a2,xs2,rfl,l2,r2⟩:=Rep.lst.mp rb
  refine CK pins s σ H _ _ v u _ I rx ry ⟨B,a1,a2,xs1,xs2,rfl,rfl,l1,l2,by rw[←r1.length,←r2.length];exact of_decide_eq_true h1,fun p hp=>⟨bo hp,Rep.lst.mpr ⟨p,_,rfl, .Ag bc fun ha=>?_,(r1.append r2).same (bo hp)⟩⟩⟩
  obtain⟨o,ho⟩:=hb p ha
  rw[hp] at ho;cases ho
 ·cases hg
theorem Dv:k6 X (binaryOp .Mult) (fun x y H Q=>∃z n,x= .str z∧y= .int n∧MulOk z n∧Q (.str (Txt.mul z n)) H):=by
 intro pins s σ H x y v u Q I rx ry h
 obtain⟨z,n,rfl,rfl,hm,q⟩:=h
 obtain⟨t,rfl⟩:=rx
 obtain⟨t',rfl⟩:=ry
 exact SB.mul hm fun t2 k=>⟨.str _,H,I.tok _,⟨_,rfl⟩,q⟩
end
end L2
end
section
set_option maxRecDepth 100000
set_option maxHeartbeats 4000000
namespace L2
open PySem PySem.Spec PyProof.Rows
section
variable {X:Cx}
theorem mulOk_of{x:Str}{n:Int}(h1: -(2 ^ 63)≤n)(h2:n < 2 ^ 63)(h3:x.length*n.toNat≤sizeLine):MulOk x n:=by
 refine⟨by simp only[Bool.or_eq_false_iff,decide_eq_false_iff_not];omega,fun hn _=>?_,fun hn _=>?_⟩
 ·have hz:sizeLine=16777216:=sizeLine_eq
  have e:(n.toNat:Int)=n:=by omega
  have h4:(x.length:Int)*n≤16777216:=by
   have:((x.length*n.toNat:Nat):Int)≤((16777216:Nat):Int):=Int.ofNat_le.mpr (by omega)
   rw[Int.natCast_mul,e] at this
   exact this
  have:(x.length:Int)≤(2 ^ 63 - 1) / n:=(Int.le_ediv_iff_mul_le (by omega)).mpr (by omega)
  omega
 ·unfold Builtin.Str.tooLong;exact decide_eq_false (by omega)
noncomputable def ju:D→D→R D
 | .int i, .int j=>R.bC (decide ((-(2 ^ 64) < i∧i < 2 ^ 64)∨(-(2 ^ 64) < j∧j < 2 ^ 64))) (.ok (.int (i*j)))
 | .str x, .int n=>R.bC (decide (-(2 ^ 63)≤n∧n < 2 ^ 63∧x.length*n.toNat≤sizeLine)) (.ok (.str (Txt.mul x n)))
 | _,_=> .no
theorem qj:ke X (binaryOp .Mult) ju:=by
 intro pins s σ H B da db d x y v u I hb rx ry ra rb hg
 unfold ju at hg
 split at hg
 ·obtain⟨h1,h2⟩:=R.bj hg
  cases h2
  have h1:=of_decide_eq_true h1
  exact Gs pins s σ H x y v u _ I rx ry ⟨_,_,Rep.int.mp ra,Rep.int.mp rb,h1,aQ.refl H,Rep.int.mpr rfl⟩
 ·obtain⟨h1,h2⟩:=R.bj hg
  cases h2
  have h1:=of_decide_eq_true h1
  exact Dv pins s σ H x y v u _ I rx ry ⟨_,_,Rep.str.mp ra,Rep.int.mp rb,mulOk_of h1.1 h1.2.1 h1.2.2,aQ.refl H,Rep.str.mpr rfl⟩
 ·cases hg
mutual
noncomputable def toPy:D→PyData
 | .dk=> .none
 | .bl b=> .bool b
 | .int i=> .int i
 | .str x=> .str x
 | .lst ds=> .list (gZ ds)
 | .tup ds=> .tuple (gZ ds)
 | .dct _ _=> .dict []
noncomputable def gZ:List D→List PyData
 | []=>[]
 | d ::ds=>toPy d ::gZ ds
end
mutual
noncomputable def fj:D→Bool
 | .dct _ _=>false
 | .lst ds=>i5 ds
 | .tup ds=>i5 ds
 | _=>true
noncomputable def i5:List D→Bool
 | []=>true
 | d ::ds=>fj d && i5 ds
end
mutual
theorem Rep.reads{pins:List (Addr × Obj)}{σ:St}{H:Hp}{s:Shared}{B:List Addr}(I:Inv X pins σ H s):∀{d:D} {v:V} {u:Value},fj d=true→Rep X.K B H d v→RelV v u→∃as,Reads s.heap u (toPy d) as
 | .dk,v,u,_,r,q=>by rw[Rep.dk.mp r] at q;cases q;unfold toPy;exact⟨_, .none⟩
 | .bl b,v,u,_,r,q=>by rw[Rep.bl.mp r] at q;cases q;unfold toPy;exact⟨_, .bool b⟩
 | .int i,v,u,_,r,q=>by rw[Rep.int.mp r] at q;obtain⟨t,rfl⟩:=q;unfold toPy;exact⟨_, .int i t⟩
 | .str x,v,u,_,r,q=>by rw[Rep.str.mp r] at q;obtain⟨t,rfl⟩:=q;unfold toPy;exact⟨_, .str x t⟩
 | .lst ds,v,u,hp,r,q=>by
   obtain⟨a,xs,rfl,l,rs⟩:=Rep.lst.mp r
   cases q
   obtain⟨its,rv,⟨o,n,e,hc,hd,he⟩,_⟩:=I.list l.sq
   obtain⟨as,ra⟩:=aF.reads I (by unfold fj at hp;exact hp) rs rv
   unfold toPy
   exact⟨_, .list e hc he (by simpa using ra)⟩
 | .tup ds,v,u,hp,r,q=>by
   obtain⟨a,xs,rfl,l,rs⟩:=Rep.tup.mp r
   cases q
   obtain⟨its,rv,⟨o,e,hc,n,hd⟩,_⟩:=I.tuple l.sq
   obtain⟨as,ra⟩:=aF.reads I (by unfold fj at hp;exact hp) rs rv
   unfold toPy
   exact⟨_, .tuple e hc hd (by simpa using ra)⟩
 | .dct _ _,v,u,hp,r,q=>by unfold fj at hp;cases hp
theorem aF.reads{pins:List (Addr × Obj)}{σ:St}{H:Hp}{s:Shared}{B:List Addr}(I:Inv X pins σ H s):∀{ds:List D} {vs:List V} {us:List Value},i5 ds=true→aF X.K B H ds vs→Vals vs us→∃as,ReadsAll s.heap us (gZ ds) as
 | [],vs,us,_,r,q=>by unfold aF at r;subst r;cases q;unfold gZ;exact⟨_, .nil⟩
 | d ::ds,vs,us,hp,r,q=>by
   obtain⟨x,xs,rfl,r1,r2⟩:=r.cn
   cases q with
   | cons q1 q2=>
     unfold i5 at hp
     obtain⟨h1,h2⟩:=Bool.and_eq_true_iff.mp hp
     obtain⟨as,a1⟩:=Rep.reads I h1 r1 q1
     obtain⟨bs,a2⟩:=aF.reads I h2 r2 q2
     unfold gZ
     exact⟨_, .cons a1 a2⟩
end
noncomputable def DX:D→D→R Bool
 | .int i, .int j=> .ok (decide (i=j))
 | .str x, .str y=> .ok (decide (x=y))
 | .bl a, .bl b=> .ok (decide (a=b))
 | d,e=>R.bC (fj d && fj e && SeqAt.shaped (toPy d) && SeqAt.shaped (toPy e)) (.ok (PyData.eqv (toPy d) (toPy e)))
noncomputable def jA(d e:D):R D:=(DX d e).bind fun b=> .ok (.bl b)
noncomputable def tF(d e:D):R D:=(DX d e).bind fun b=> .ok (.bl (!b))
theorem jS(hu:X.A.units+64 < cLine):ke X (compareOp .Eq) jA:=by
 intro pins s σ H B da db d x y v u I hb rx ry ra rb hg
 obtain⟨b,h1,h2⟩:=R.ak hg
 cases h2
 unfold DX at h1
 split at h1
 ·cases h1
  rename_i i j
  have:=BK pins s σ H x y v u (fun z H'=>aQ H H'∧Rep X.K B H' (.bl (decide (i=j))) z) I rx ry
  rw[Rep.int.mp ra,Rep.int.mp rb] at this
  refine this ⟨rfl,aQ.refl H,Rep.bl.mpr ?_⟩
  simp [V.int.injEq]
 ·cases h1
  rename_i i j
  have:=BK pins s σ H x y v u (fun z H'=>aQ H H'∧Rep X.K B H' (.bl (decide (i=j))) z) I rx ry
  rw[Rep.str.mp ra,Rep.str.mp rb] at this
  refine this ⟨rfl,aQ.refl H,Rep.bl.mpr ?_⟩
  simp [V.str.injEq]
 ·cases h1
  rename_i i j
  have:=BK pins s σ H x y v u (fun z H'=>aQ H H'∧Rep X.K B H' (.bl (decide (i=j))) z) I rx ry
  rw[Rep.bl.mp ra,Rep.bl.mp rb] at this
  refine this ⟨rfl,aQ.refl H,Rep.bl.mpr ?_⟩
  simp [V.bl.injEq]
 ·obtain⟨h3,h4⟩:=R.bj h1
  cases h4
  simp only[Bool.and_eq_true] at h3
  obtain⟨⟨⟨p1,p2⟩,s1⟩,s2⟩:=h3
  obtain⟨as,r1⟩:=ra.reads I p1 rx
  obtain⟨bs,r2⟩:=rb.reads I p2 ry
  exact eq_dataH r1 r2 s1 s2 hu ⟨.bl _,H,I,rfl,aQ.refl H,Rep.bl.mpr rfl⟩
theorem zy(hu:X.A.units+64 < cLine):ke X (compareOp .NotEq) tF:=by
 intro pins s σ H B da db d x y v u I hb rx ry ra rb hg
 obtain⟨b,h1,h2⟩:=R.ak hg
 cases h2
 unfold DX at h1
 split at h1
 ·cases h1
  rename_i i j
  have:=BC pins s σ H x y v u (fun z H'=>aQ H H'∧Rep X.K B H' (.bl (!decide (i=j))) z) I rx ry
  rw[Rep.int.mp ra,Rep.int.mp rb] at this
  refine this ⟨rfl,aQ.refl H,Rep.bl.mpr ?_⟩
  simp [V.int.injEq]
 ·cases h1
  rename_i i j
  have:=BC pins s σ H x y v u (fun z H'=>aQ H H'∧Rep X.K B H' (.bl (!decide (i=j))) z) I rx ry
  rw[Rep.str.mp ra,Rep.str.mp rb] at this
  refine this ⟨rfl,aQ.refl H,Rep.bl.mpr ?_⟩
  simp [V.str.injEq]
 ·cases h1
  rename_i i j
  have:=BC pins s σ H x y v u (fun z H'=>aQ H H'∧Rep X.K B H' (.bl (!decide (i=j))) z) I rx ry
  rw[Rep.bl.mp ra,Rep.bl.mp rb] at this
  refine this ⟨rfl,aQ.refl H,Rep.bl.mpr ?_⟩
  simp [V.bl.injEq]
 ·obtain⟨h3,h4⟩:=R.bj h1
  cases h4
  simp only[Bool.and_eq_true] at h3
  obtain⟨⟨⟨p1,p2⟩,s1⟩,s2⟩:=h3
  obtain⟨as,r1⟩:=ra.reads I p1 rx
  obtain⟨bs,r2⟩:=rb.reads I p2 ry
  exact ne_dataH r1 r2 s1 s2 hu ⟨.bl _,H,I,rfl,aQ.refl H,Rep.bl.mpr rfl⟩
noncomputable def strs?:List D→Option (List Str)
 | []=>some []
 | .str x ::ds=>(strs? ds).map (x ::·)
 | _ ::_=>none
theorem jv{K:PySem.W.Frag}{B:List Addr}{H:Hp}:∀{ds:List D} {xs:List V} {ss:List Str},aF K B H ds xs→strs? ds=some ss→xs=ss.map V.str
 | [],xs,ss,r,h=>by unfold aF at r;subst r;cases h;rfl
 | d ::ds,xs,ss,r,h=>by
   obtain⟨x,r',rfl,r1,r2⟩:=r.cn
   cases d with
   | str z=>
     unfold strs? at h
     cases e:strs? ds with
     | none=>rw [e] at h;cases h
     | some tt=>
       rw[e] at h
       cases h
       rw[Rep.str.mp r1,jv r2 e]
       rfl
   | _=>cases h
noncomputable def ints?:List D→Option (List Int)
 | []=>some []
 | .int x ::ds=>(ints? ds).map (x ::·)
 | _ ::_=>none
theorem eW{K:PySem.W.Frag}{B:List Addr}{H:Hp}:∀{ds:List D} {xs:List V} {ss:List Int},aF K B H ds xs→ints? ds=some ss→xs=ss.map V.int
 | [],xs,ss,r,h=>by unfold aF at r;subst r;cases h;rfl
 | d ::ds,xs,ss,r,h=>by
   obtain⟨x,r',rfl,r1,r2⟩:=r.cn
   cases d with
   | int z=>
     unfold ints? at h
     cases e:ints? ds with
     | none=>rw [e] at h;cases h
     | some tt=>
       rw[e] at h
       cases h
       rw[Rep.int.mp r1,eW r2 e]
       rfl
   | _=>cases h
noncomputable def inD(d e:D):R Bool:=match d,e with
 | .str x, .lst ds=>(match strs? ds with | some ss=> .ok (ss.contains x) | none=> .no)
 | .str x, .tup ds=>(match strs? ds with | some ss=> .ok (ss.contains x) | none=> .no)
 | .str x, .str y=> .ok (!(Builtin.Str.occurrences y x 0 y.length 1).isEmpty)
 | .int x, .lst ds=>(match ints? ds with | some ss=> .ok (ss.contains x) | none=> .no)
 | .int x, .tup ds=>(match ints? ds with | some ss=> .ok (ss.contains x) | none=> .no)
 | _,_=> .no
noncomputable def oM(d e:D):R D:=(inD d e).bind fun b=> .ok (.bl b)
noncomputable def kx(d e:D):R D:=(inD d e).bind fun b=> .ok (.bl (!b))
theorem pQ(x:Str):∀ss:List Str,Ej (.str x) (ss.map V.str)=ss.contains x
 | []=>rfl
 | y ::ss=>by
   unfold Ej
   rw[List.map_cons,List.any_cons]
   have ih:=pQ x ss
   unfold Ej at ih
   rw[ih]
   show(y==x || ss.contains x)=_
   rw[List.contains_cons]
   congr 1
   exact Bool.eq_iff_iff.mpr ⟨fun h=>by simpa using(beq_iff_eq.mp h).symm,fun h=>by simpa using(beq_iff_eq.mp h).symm⟩
theorem pI(x:Int):∀ss:List Int,Ej (.int x) (ss.map V.int)=ss.contains x
 | []=>rfl
 | y ::ss=>by
   unfold Ej
   rw[List.map_cons,List.any_cons]
   have ih:=pI x ss
   unfold Ej at ih
   rw[ih]
   show(y==x || ss.contains x)=_
   rw[List.contains_cons]
   congr 1
   exact Bool.eq_iff_iff.mpr ⟨fun h=>by simpa using(beq_iff_eq.mp h).symm,fun h=>by simpa using(beq_iff_eq.mp h).symm⟩
theorem rm(ss:List Int):(ss.map V.int).all j_=true:=by
 rw[List.all_map]
 simp [List.all_eq_true,j_]
theorem rP(ss:List Str):(ss.map V.str).all j_=true:=by
 rw[List.all_map]
 simp [List.all_eq_true,j_]
theorem FQ{neg:Bool}{op:CmpOp}{g:D→D→R D}(h1:k6 X (compareOp op) (Kp X.K neg))(h2:k6 X (compareOp op) (fun x y H Q=>∃i j,x= .str i∧y= .str j∧Q (.bl (if neg then !(!(Builtin.Str.occurrences j i 0 j.length 1).isEmpty) else(!(Builtin.Str.occurrences j i 0 j.length 1).isEmpty))) H))
 (hg:∀d e r,g d e= .ok r→∃b,inD d e= .ok b∧r= .bl (if neg then !b else b)):ke X (compareOp op) g:=by
 intro pins s σ H B da db d x y v u I hb rx ry ra rb hg'
 obtain⟨b,hi,rfl⟩:=hg da db d hg'
 unfold inD at hi
 split at hi
 ·rename_i z ds
  split at hi
  ·rename_i ss e
   cases hi
   obtain⟨a,xs,rfl,l,rs⟩:=Rep.lst.mp rb
   refine h1 pins s σ H x _ v u _ I rx ry ⟨a,xs,rfl, .inl l.sq,by rw[Rep.str.mp ra];rfl,by rw[jv rs e];exact rP _,aQ.refl H,Rep.bl.mpr ?_⟩
   rw[jv rs e,Rep.str.mp ra,pQ]
  ·cases hi
 ·rename_i z ds
  split at hi
  ·rename_i ss e
   cases hi
   obtain⟨a,xs,rfl,l,rs⟩:=Rep.tup.mp rb
   refine h1 pins s σ H x _ v u _ I rx ry ⟨a,xs,rfl, .inr l.sq,by rw[Rep.str.mp ra];rfl,by rw[jv rs e];exact rP _,aQ.refl H,Rep.bl.mpr ?_⟩
   rw[jv rs e,Rep.str.mp ra,pQ]
  ·cases hi
 ·cases hi
  exact h2 pins s σ H x y v u _ I rx ry ⟨_,_,Rep.str.mp ra,Rep.str.mp rb,aQ.refl H,Rep.bl.mpr rfl⟩
 ·rename_i z ds
  split at hi
  ·rename_i ss e
   cases hi
   obtain⟨a,xs,rfl,l,rs⟩:=Rep.lst.mp rb
   refine h1 pins s σ H x _ v u _ I rx ry ⟨a,xs,rfl, .inl l.sq,by rw[Rep.int.mp ra];rfl,by rw[eW rs e];exact rm _,aQ.refl H,Rep.bl.mpr ?_⟩
   rw[eW rs e,Rep.int.mp ra,pI]
  ·cases hi
 ·rename_i z ds
  split at hi
  ·rename_i ss e
   cases hi
   obtain⟨a,xs,rfl,l,rs⟩:=Rep.tup.mp rb
   refine h1 pins s σ H x _ v u _ I rx ry ⟨a,xs,rfl, .inr l.sq,by rw[Rep.int.mp ra];rfl,by rw[eW rs e];exact rm _,aQ.refl H,Rep.bl.mpr ?_⟩
   rw[eW rs e,Rep.int.mp ra,pI]
  ·cases hi
 ·cases hi
theorem zj:ke X (compareOp .In) oM:=FQ (neg:=false) yw yB fun d e r h=>by
 obtain⟨b,h1,h2⟩:=R.ak h
 cases h2
 exact⟨b,h1,rfl⟩
noncomputable def cb(d e:D):R D:=match d,e with
 | .lst ds, .int i=>(match oJ ds i with | some x=> .ok x | none=> .no)
 | .tup ds, .int i=>(match oJ ds i with | some x=> .ok x | none=> .no)
 | .str x, .int i=>R.bC (decide (x.length≤sizeLine)) (match oJ x.cps.toList i with | some c=> .ok (.str ⟨#[c]⟩) | none=> .no)
 | _,_=> .no
theorem mH{K:PySem.W.Frag}{B:List Addr}{H:Hp}{ds:List D}{xs:List V}{i:Int}{d:D}(r:aF K B H ds xs)(h:oJ ds i=some d):∃x,oJ xs i=some x∧Rep K B H d x:=by
 unfold oJ at h ⊢
 rw[←r.length]
 cases e:pW ds.length i with
 | none=>rw [e] at h;cases h
 | some j=>
   rw[e] at h
   exact r.get h
theorem HJ{a b:Expr}{fa fb:FD}{pos:Pos}(ha:PD X a fa)(hb:PD X b fb)(hs:o7 b):PD X (.Subscript a b pos) (e2 cb fa fb):=by
 refine(Eh (r:=Jc X.K) zN ha hb hs).imp fun σ H Q ⟨Z,B,δ,d,E,hf,q⟩=>?_
 obtain⟨d1,h1,h2⟩:=R.ak hf
 obtain⟨d2,h3,h4⟩:=R.ak h2
 refine⟨Z,B,δ,d1,E,h1,fun v1 H1 s1 r1=>⟨Z,B,δ,d2,E.same s1,h3,fun v2 H2 s2 r2=>?_⟩⟩
 have r1':=r1.same s2
 unfold cb at h4
 split at h4
 ·split at h4
  ·rename_i e
   cases h4
   obtain⟨p,xs,rfl,l,rs⟩:=Rep.lst.mp r1'
   obtain⟨y,e1,e2⟩:=mH rs e
   exact .inl ⟨p,xs,_,y,rfl,Rep.int.mp r2,l.sq,e1,q y H2 (s1.trans s2) e2⟩
  ·cases h4
 ·split at h4
  ·rename_i e
   cases h4
   obtain⟨p,xs,rfl,l,rs⟩:=Rep.tup.mp r1'
   obtain⟨y,e1,e2⟩:=mH rs e
   exact .inr (.inl ⟨p,xs,_,y,rfl,Rep.int.mp r2,l.sq,e1,q y H2 (s1.trans s2) e2⟩)
  ·cases h4
 ·obtain⟨hl,h5⟩:=R.bj h4
  split at h5
  ·rename_i e
   cases h5
   exact .inr (.inr ⟨_,_,_,Rep.str.mp r1',Rep.int.mp r2,of_decide_eq_true hl,e,q _ H2 (s1.trans s2) (Rep.str.mpr rfl)⟩)
  ·cases h5
 ·cases h4
noncomputable abbrev FO:=av→R (Option Int)
noncomputable def KJ(K:PySem.W.Frag)(f:FO):TO:=fun σ H Q=>∃Z B δ o,dX K Z B H σ δ∧f δ= .ok o∧∀H',aQ H H'→Q o H'
theorem PO.imp{X:Cx}{e:Option Expr}{t t':TO}(h:PO X e t)(w:∀σ H Q,t' σ H Q→t σ H Q):PO X e t':=fun pins s σ H Q I hq=>h pins s σ H Q I (w σ H Q hq)
noncomputable abbrev PP(X:Cx)(e:Option Expr)(f:FO):Prop:=PO X e (KJ X.K f)
noncomputable def j7:FO:=fun _=> .ok none
noncomputable def g6(f:FD):FO:=fun δ=>(f δ).bind fun d=>match d with | .int i=> .ok (some i) | _=> .no
theorem Dh:PP X none j7:=CI.imp fun σ H Q ⟨Z,B,δ,o,E,hf,q⟩=>by cases hf;exact q H (aQ.refl H)
theorem CJ{e:Expr}{f:FD}(h:PD X e f):PP X (some e) (g6 f):=(DJ h).imp fun σ H Q ⟨Z,B,δ,o,E,hf,q⟩=>by
 obtain⟨d,h1,h2⟩:=R.ak hf
 cases d with
 | int i=>cases h2;exact⟨Z,B,δ, .int i,E,h1,fun v H1 s1 r1=>⟨i,Rep.int.mp r1,q H1 s1⟩⟩
 | _=>cases h2
theorem F0:EJ X (fun x lo hi H Q=>∃z,x= .str z∧z.length≤sizeLine∧Q (.str (Txt.slice z lo hi)) H):=by
 intro pins s σ H x v vl vu lo hi sl Q I rx hs pl pu h
 obtain⟨z,rfl,hz,q⟩:=h
 obtain⟨t,rfl⟩:=rx
 refine⟨"str",_,F.slot_str_getitem.lookup,typeIs_str _ _ _,?_⟩
 have fin:∀t' k,EP X pins σ Q (.str (Txt.slice z lo hi) t') {s with toks:=k}:=fun t' k=>⟨.str _,H,I.tok _,⟨_,rfl⟩,q⟩
 obtain⟨o,ho,hc,hd⟩:=hs
 cases pl with
 | none=>
   cases pu with
   | none=>exact wpAny_getItem_str_slice (l:=none) (u:=none) (st:=none) ⟨o,ho,hc,hd⟩ rfl (post_val_or_str ⟨Nat.le_trans (Txt.slice_le z _ _) hz,fin⟩)
   | int j u=>exact wpAny_getItem_str_slice (l:=none) (u:=some (j,u)) (st:=none) ⟨o,ho,hc,hd⟩ rfl (post_val_or_str ⟨Nat.le_trans (Txt.slice_le z _ _) hz,fin⟩)
 | int i t1=>
   cases pu with
   | none=>exact wpAny_getItem_str_slice (l:=some (i,t1)) (u:=none) (st:=none) ⟨o,ho,hc,hd⟩ rfl (post_val_or_str ⟨Nat.le_trans (Txt.slice_le z _ _) hz,fin⟩)
   | int j u=>exact wpAny_getItem_str_slice (l:=some (i,t1)) (u:=some (j,u)) (st:=none) ⟨o,ho,hc,hd⟩ rfl (post_val_or_str ⟨Nat.le_trans (Txt.slice_le z _ _) hz,fin⟩)
noncomputable def cutD{α:Type}(xs:List α)(lo hi:Option Int):List α:=(xs.drop (HT.o8 xs.length 0 lo)).take (HT.o8 xs.length xs.length hi - HT.o8 xs.length 0 lo)
noncomputable def Fg(d:D)(lo hi:Option Int):R D:=match d with
 | .str x=>R.bC (decide (x.length≤sizeLine)) (.ok (.str (Txt.slice x lo hi)))
 | .lst ds=> .ok (.lst (cutD ds lo hi))
 | _=> .no
theorem Ae{K:PySem.W.Frag}{B:List Addr}{H:Hp}{ds:List D}{xs:List V}(r:aF K B H ds xs)(lo hi:Option Int):aF K B H (cutD ds lo hi) (vX xs lo hi):=by
 unfold cutD vX
 rw[←r.length]
 exact(r.drop _).take _
noncomputable def wj(f:FD)(fl fh:FO):FD:=fun δ=>(f δ).bind fun d=>(fl δ).bind fun lo=>(fh δ).bind fun hi=>Fg d lo hi
theorem GR{e:Expr}{lo hi:Option Expr}{f:FD}{fl fh:FO}{p2 pos:Pos}(he:PD X e f)(hl:PP X lo fl)(hh:PP X hi fh):PD X (.Subscript e (.Slice lo hi none p2) pos) (wj f fl fh):=by
 refine(zV (F0.or Cw) he hl hh).imp fun σ H Q ⟨Z,B,δ,d,E,hf,q⟩=>?_
 obtain⟨d1,h1,h2⟩:=R.ak hf
 obtain⟨l,h3,h4⟩:=R.ak h2
 obtain⟨h,h5,h6⟩:=R.ak h4
 refine⟨Z,B,δ,d1,E,h1,fun v1 H1 s1 r1=>⟨Z,B,δ,l,E.same s1,h3,fun H2 s2=>⟨Z,B,δ,h,(E.same s1).same s2,h5,fun H3 s3=>?_⟩⟩⟩
 have sA:aQ H H3:=s1.trans (s2.trans s3)
 have r1':=r1.same (s2.trans s3)
 unfold Fg at h6
 split at h6
 ·obtain⟨hz,h7⟩:=R.bj h6
  cases h7
  exact .inl ⟨_,Rep.str.mp r1',of_decide_eq_true hz,q _ H3 sA (Rep.str.mpr rfl)⟩
 ·cases h6
  obtain⟨a,xs,rfl,ls,rs⟩:=Rep.lst.mp r1'
  refine .inr ⟨a,xs,rfl,ls.sq,fun p hp=>q _ _ (sA.trans (bo hp)) (Rep.lst.mpr ⟨p,_,rfl, .Ag bc fun ha=>?_,(Ae rs l h).same (bo hp)⟩)⟩
  obtain⟨o,ho⟩:=(E.same sA).bs p ha
  rw[hp] at ho;cases ho
 ·cases h6
end
end L2
end
section
set_option maxRecDepth 100000
set_option maxHeartbeats 4000000
namespace L2
open PySem PySem.Spec PyProof.Rows
section
variable {X:Cx}
theorem aF.one{K:PySem.W.Frag}{B:List Addr}{H:Hp}{d:D}{xs:List V}(h:aF K B H [d] xs):∃x,xs=[x]∧Rep K B H d x:=by
 obtain⟨x,r,rfl,h1,h2⟩:=h.cn
 unfold aF at h2
 subst h2
 exact⟨x,rfl,h1⟩
theorem aF.two{K:PySem.W.Frag}{B:List Addr}{H:Hp}{d e:D}{xs:List V}(h:aF K B H [d,e] xs):∃x y,xs=[x,y]∧Rep K B H d x∧Rep K B H e y:=by
 obtain⟨x,r,rfl,h1,h2⟩:=h.cn
 obtain⟨y,rfl,h3⟩:=h2.one
 exact⟨x,y,rfl,h1,h3⟩
noncomputable def dz:List D→R D
 | [.str x]=>R.bC (decide (x.length≤sizeLine)) (.ok (.int x.length))
 | [.lst ds]=> .ok (.int ds.length)
 | [.tup ds]=> .ok (.int ds.length)
 | _=> .no
theorem er:cZ X (.builtin "len") dz:=cZ.of Bs fun B H ds d xs Q _ rs hg q=>by
 unfold dz at hg
 split at hg
 ·obtain⟨h1,h2⟩:=R.bj hg
  cases h2
  obtain⟨x,rfl,r⟩:=rs.one
  exact⟨x,_,rfl,by rw[Rep.str.mp r];exact⟨of_decide_eq_true h1,rfl⟩,q _ H (aQ.refl H) (Rep.int.mpr rfl)⟩
 ·cases hg
  obtain⟨x,rfl,r⟩:=rs.one
  obtain⟨a,ys,rfl,l,r⟩:=Rep.lst.mp r
  exact⟨_,_,rfl, .inl ⟨ys,l.sq,rfl⟩,q _ H (aQ.refl H) (Rep.int.mpr (by rw[r.length]))⟩
 ·cases hg
  obtain⟨x,rfl,r⟩:=rs.one
  obtain⟨a,ys,rfl,l,r⟩:=Rep.tup.mp r
  exact⟨_,_,rfl, .inr ⟨ys,l.sq,rfl⟩,q _ H (aQ.refl H) (Rep.int.mpr (by rw[r.length]))⟩
 ·cases hg
noncomputable def cInt:List D→R D
 | [.int i]=> .ok (.int i)
 | [.bl b]=> .ok (.int (if b then 1 else 0))
 | _=> .no
theorem Ia:cZ X (.type "int") cInt:=cZ.of yY fun B H ds d xs Q _ rs hg q=>by
 unfold cInt at hg
 split at hg
 ·cases hg
  obtain⟨x,rfl,r⟩:=rs.one
  exact .inl ⟨_,by rw[Rep.int.mp r],q _ H (aQ.refl H) (Rep.int.mpr rfl)⟩
 ·cases hg
  obtain⟨x,rfl,r⟩:=rs.one
  exact .inr ⟨_,by rw[Rep.bl.mp r],q _ H (aQ.refl H) (Rep.int.mpr rfl)⟩
 ·cases hg
noncomputable def cStr:List D→R D
 | [.int i]=>R.bC (decide (i.natAbs.log2 < 1920)) (.ok (.str (toString i)))
 | _=> .no
noncomputable def p6:List D→R D
 | [.int i, .int j]=> .ok (.int (if j < i then j else i))
 | _=> .no
theorem Hx(hc:X.calm=true):cZ X (.builtin "min") p6:=cZ.of (yR hc) fun B H ds d xs Q _ rs hg q=>by
 unfold p6 at hg
 split at hg
 ·cases hg
  obtain⟨x,y,rfl,r1,r2⟩:=rs.two
  exact⟨_,_,by rw[Rep.int.mp r1,Rep.int.mp r2],q _ H (aQ.refl H) (Rep.int.mpr rfl)⟩
 ·cases hg
noncomputable def Fz:List D→R D
 | [.int i, .int j]=> .ok (.int (if j > i then j else i))
 | _=> .no
theorem Hj(hc:X.calm=true):cZ X (.builtin "max") Fz:=cZ.of (ze hc) fun B H ds d xs Q _ rs hg q=>by
 unfold Fz at hg
 split at hg
 ·cases hg
  obtain⟨x,y,rfl,r1,r2⟩:=rs.two
  exact⟨_,_,by rw[Rep.int.mp r1,Rep.int.mp r2],q _ H (aQ.refl H) (Rep.int.mpr rfl)⟩
 ·cases hg
noncomputable def fg:List D→R D
 | [.lst ds]=> .ok (.tup ds)
 | [.tup ds]=> .ok (.tup ds)
 | _=> .no
theorem o_:cZ X (.type "tuple") fg:=cZ.of qG fun B H ds d xs Q hb rs hg q=>by
 unfold fg at hg
 split at hg
 ·cases hg
  obtain⟨x,rfl,r⟩:=rs.one
  obtain⟨a,ys,rfl,l,r⟩:=Rep.lst.mp r
  refine⟨a,ys,rfl, .inl ⟨l.sq,fun p hp=>q _ _ (bo hp) (Rep.tup.mpr ⟨p,ys,rfl, .inl ⟨fun ha=>?_, .inl bc⟩,r.same (bo hp)⟩)⟩⟩
  obtain⟨o,ho⟩:=hb p ha
  rw[hp] at ho;cases ho
 ·cases hg
  obtain⟨x,rfl,r⟩:=rs.one
  have r0:=r
  obtain⟨a,ys,rfl,l,r⟩:=Rep.tup.mp r
  exact⟨a,ys,rfl, .inr ⟨l.sq,q _ H (aQ.refl H) r0⟩⟩
 ·cases hg
noncomputable def nX:List D→R D
 | [.lst ds]=> .ok (.lst ds)
 | [.tup ds]=> .ok (.lst ds)
 | _=> .no
noncomputable def cAbs:List D→R D
 | [.int i]=> .ok (.int (if i < 0 then -i else i))
 | _=> .no
theorem Hd:cZ X (.builtin "abs") cAbs:=cZ.of zZ fun B H ds d xs Q _ rs hg q=>by
 unfold cAbs at hg
 split at hg
 ·cases hg
  obtain⟨x,rfl,r⟩:=rs.one
  exact⟨_,by rw[Rep.int.mp r],q _ H (aQ.refl H) (Rep.int.mpr rfl)⟩
 ·cases hg
noncomputable def Eu:List D→R D
 | [.lst ds]=>(match ints? ds with | some ns=> .ok (.int ns.sum) | none=> .no)
 | _=> .no
theorem fq:∀{ns:List Int} {us:List Value},Vals (ns.map V.int) us→∃l:List (Int × Tok),us=l.map (fun p=>Value.int p.1 p.2)∧l.map (·.1)=ns
 | [],_, .nil=>⟨[],rfl,rfl⟩
 | n ::ns,_, .cons r t=>by
   obtain⟨l,rfl,e⟩:=fq t
   obtain⟨tk,rfl⟩:=r
   exact⟨(n,tk) ::l,rfl,by rw[List.map_cons,e]⟩
theorem HY(hc:X.calm=true):cZ X (.builtin "sum") Eu:=by
 intro pins s σ H B ds d xs us I hb rx rs hg
 unfold Eu at hg
 split at hg
 ·split at hg
  ·rename_i es ns e
   cases hg
   obtain⟨x,rfl,r⟩:=rs.one
   obtain⟨a,ys,rfl,l,r⟩:=Rep.lst.mp r
   obtain⟨u,rfl,ru⟩:=vals1 rx
   cases ru
   obtain⟨its,n,rv,e1,hz⟩:=I.GA l
   rw[eW r e] at rv
   obtain⟨ps,rfl,rfl⟩:=fq rv
   have hl:s.heap.IsList a (intItems ps.toArray):=⟨_,e1,rfl,n,by simp [intItems]⟩
   refine sum_intListG (I.ok.hd hc) hl fun h' tk t' k=>⟨.int _,H,I.kept k,⟨t',rfl⟩,aQ.refl H,Rep.int.mpr ?_⟩
   rw[preSum_eq,List.take_of_length_le (by simp)]
  ·cases hg
 ·cases hg
noncomputable def tyName:D→String
 | .dk=>"NoneType" | .bl _=>"bool" | .int _=>"int" | .str _=>"str" | .lst _=>"list" | .tup _=>"tuple" | .dct _ _=>"dict"
noncomputable def vh(T:String)(f:FD):FD:=fun δ=>(f δ).bind fun d=>R.bC (tyName d==T && d.atom) (.ok (.bl true))
noncomputable def Ik(X:Cx)(id:String)(g:D→List D→R D):Prop:=
 ∀(pins:List (Addr × Obj)) (s:Shared) (σ:St) (H:Hp) (B:List Addr) (da d:D) (ds:List D) (x:V) (xs:List V) (v:Value) (us:List Value),Inv X pins σ H s→(∀a∈B,∃o,H a=some o)→RelV x v→Vals xs us→Rep X.K B H da x→aF X.K B H ds xs→g da ds= .ok d→
  wpAny (model X.prog X.w) X.A (call (.builtin id) (v ::us)) (EP X pins σ fun z H'=>aQ H H'∧Rep X.K B H' d z) X.xe s
noncomputable def y6(T:String)(g:D→List D→R D)(f:FD)(fs:av→R (List D)):FD:=fun δ=>(f δ).bind fun d=>R.bC (tyName d==T && (d.atom || T=="list")) ((fs δ).bind fun ds=>g d ds)
theorem Ik.r{id:String}{g:D→List D→R D}(h:Ik X id g):Kk X id (fun x xs H Q=>∃B da ds d,(∀a∈B,∃o,H a=some o)∧Rep X.K B H da x∧aF X.K B H ds xs∧g da ds= .ok d∧∀z H',aQ H H'→Rep X.K B H' d z→Q z H'):=by
 intro pins s σ H x xs v us Q I rx rxs ⟨B,da,ds,d,hb,ra,rs,hg,q⟩
 exact d5 (h pins s σ H B da d ds x xs v us I hb rx rxs ra rs hg) fun z s' ⟨zv,H',I',r',s1,r1⟩=>⟨zv,H',I',r',q zv H' s1 r1⟩
theorem Hr{T id:String}{name:Str}{g:D→List D→R D}{o e:Expr}{es:List Expr}{f:FD}{fs:av→R (List D)}{apos cpos:Pos}(pa:PlainAttrs T)(slot:Slot T name id)(hty:typeOf (.builtin id)=pure (.type "method_descriptor"))(hm:Ik X id g)(ho:PD X o f)(ha:AU X (e ::es) fs)
 (hT:T="str"∨T="int"∨T="list")
 (hbase:attributeBase o name X.env (eval o X.env)=eval o X.env:=by rfl)
 (hfew:((backTo cpos (starEach (e ::es) X.env)).all (fun x=>!x.1) && (backToKw cpos (keywordEach [] X.env)).all (fun x=>x.1.isSome)
   && decide ((e ::es).length+([]:List Keyword).length+(if([]:List Keyword).isEmpty then 0 else 1) < 30))=true:=by rfl)
 (hline:(apos.endLine==cpos.line)=true:=by rfl) (hs:starEach (e ::es) X.env=(false,eval e X.env) ::starEach es X.env:=by rfl) (hplain:(backTo cpos (starEach es X.env)).any (·.1)=false:=by rfl) :
 PD X (.Call (.Attribute o name apos) (e ::es) [] cpos) (y6 T g f fs):=by
 refine(Bz pa slot hty hm.r ho ha hbase hfew hline hs hplain).imp fun σ H Q ⟨Z,B,δ,d,E,hf,q⟩=>?_
 obtain⟨d1,h1,h2⟩:=R.ak hf
 obtain⟨h3,h4⟩:=R.bj h2
 obtain⟨ds,h5,h6⟩:=R.ak h4
 obtain⟨h7,h8⟩:=Bool.and_eq_true_iff.mp h3
 have h7:tyName d1=T:=by simpa using h7
 refine⟨Z,B,δ,d1,E,h1,fun v1 H1 s1 r1=>⟨?_,Z,B,δ,ds,E.same s1,h5,fun vs H2 s2 r2=>⟨B,d1,ds,d,(E.same (s1.trans s2)).bs,r1.same s2,r2,h6,fun z H' s3 r3=>q z H' (s1.trans (s2.trans s3)) r3⟩⟩⟩
 cases d1 with
 | str z=>rw [Rep.str.mp r1];exact h7.symm
 | int i=>rw [Rep.int.mp r1];exact h7.symm
 | lst es=>obtain⟨a,xs,rfl,l,_⟩:=Rep.lst.mp r1;exact .inl ⟨h7.symm,xs,l.sq⟩
 | dk=>rcases hT with z | z | z <;> (rw [z] at h7;exact absurd (show("NoneType":String)=_ from h7) (by decide))
 | bl _=>rcases hT with z | z | z <;> (rw [z] at h7;exact absurd (show("bool":String)=_ from h7) (by decide))
 | tup _=>rcases hT with z | z | z <;> (rw [z] at h7;exact absurd (show("tuple":String)=_ from h7) (by decide))
 | dct _ _=>rcases hT with z | z | z <;> (rw [z] at h7;exact absurd (show("dict":String)=_ from h7) (by decide))
noncomputable def JY(d:D)(ds:List D):R D:=match d,ds with
 | .str sep,[.lst es]=>(match strs? es with | some ss=>R.bC (JoinOk sep ss) (.ok (.str (Str.join sep ss))) | none=> .no)
 | _,_=> .no
noncomputable abbrev PJ(X:Cx)(es:List Expr)(f:av→R (List Str)):Prop:=
 ∀(pins:List (Addr × Obj)) (s:Shared) (σ:St) (H:Hp) (Z B:List Addr) (δ:av) (acc:Str) (ss:List Str) (Q:VK),Inv X pins σ H s→dX X.K Z B H σ δ→f δ= .ok ss→(ss.foldl (·++·) acc).length≤sizeLine→(∀H',aQ H H'→Q (.str (ss.foldl (·++·) acc)) H')→
  wpAny (model X.prog X.w) X.A (joinParts acc (evalEach es X.env)) (EP X pins σ Q) X.xe s
noncomputable def tS:av→R (List Str):=fun _=> .ok []
noncomputable def n_(f:FD)(g:av→R (List Str)):av→R (List Str):=fun δ=>(f δ).bind fun d=>match d with | .str x=>(g δ).bind fun ss=> .ok (x ::ss) | _=> .no
noncomputable def i0(g:av→R (List Str)):FD:=fun δ=>(g δ).bind fun ss=>R.bC (decide ((ss.foldl (·++·) Str.empty).length≤sizeLine)) (.ok (.str (ss.foldl (·++·) Str.empty)))
noncomputable def r9:D→R D
 | .str x=>R.bC (decide (x.length≤sizeLine)) (.ok (.str x))
 | .int i=>R.bC (decide (i.natAbs.log2 < 1920)) (.ok (.str (toString i)))
 | _=> .no
noncomputable def uE(f:FD):FD:=fun δ=>(f δ).bind r9
noncomputable def Hq:List (D × D)→Str→R (Option D)
 | [],_=> .ok none
 | (.str y,d) ::r,x=>(Hq r x).bind fun o=> .ok (match o with | some e=>some e | none=>if y=x then some d else none)
 | _ ::_,_=> .no
noncomputable def HD(x:Str):List D:=x.cps.toList.map fun c=> .str ⟨#[c]⟩
noncomputable def Me(x:Str):It:=⟨fun i _=>i < x.cps.size,fun i H v H'=>H'=H∧∃c,x.cps[i]? =some c∧v= .str ⟨#[c]⟩,fun i _=>x.cps.size≤i⟩
noncomputable def J6(f:FD):av→R (List D):=fun δ=>(f δ).bind fun d=>match d with | .str x=> .ok (HD x) | _=> .no
noncomputable def KQ(K:PySem.W.Frag)(a:Addr):It:=
 ⟨fun i H=>∃xs x,mD K H a xs∧xs[i]? =some x,fun i H v H'=>∃p x,H p=none∧v= .ref p∧(∀xs,mD K H a xs→xs[i]? =some x)∧H'=upd H p (.tup [.int i,x]),fun i H=>∃xs,mD K H a xs∧xs.length≤i⟩
theorem yC{P:Program}{w:World}{K:PySem.W.Frag}{elts:List Expr}{k:Nat}{pos:Pos}(a e it:Addr)(hei:e≠it):Turn P w K (.Tuple elts k pos) (KQ K a) [e,it] e (fun i h=>(∃old,IsEnum h e it ((i:Nat):Int) old)∧h.IsListIter it a i) where
 mem:=by simp
 obj:=fun i h st b hb=>by
  obtain⟨⟨old,he⟩,o,ho,c,d⟩:=st
  rcases List.mem_cons.mp hb with rfl | hb
  ·exact⟨_,he,fun v z=>by cases z⟩
  ·have e:b=it:=by simpa using hb
   subst e
   exact⟨o,ho,fun v z=>by rw[d] at z;cases z⟩
 keep:=fun i h h' st k=>by
  obtain⟨⟨old,he⟩,hi⟩:=st
  exact⟨⟨old,k e (by simp) _ he⟩,hi.at fun o x=>k it (by simp) o x⟩
 item:=by
  intro X hP hw hK hc i pins s σ H E I hf st hg
  subst hP hw hK
  obtain⟨xs,x,hq,hx⟩:=hg
  obtain⟨its,rv,p,hz⟩:=I.list hq
  obtain⟨u,hu,ru⟩:=rv.get hx
  obtain⟨⟨old,he⟩,hit⟩:=st
  obtain⟨f0,f1,f2,f3,f4,f5⟩:=hf e (by simp)
  obtain⟨g0,g1,g2,g3,g4,g5⟩:=hf it (by simp)
  refine wpAny_pyNext_enum_item he hit p.isList (x:=u) (by simpa using hu) hei fun h₁ heo hit₁ ht₁ hz₁ hk₁=>⟨_,rfl,?_⟩
  refine wpAny_letOwnedTupleGo_enum heo fun h₂ he₂ hs₂=>?_
  replace hs₂:Heap.SameBut e h₁ h₂:=hs₂
  have hel:e < s.heap.objs.size:=Heap.lt_size he
  have ht₂:h₂.get? s.heap.objs.size=some {cls:= .type "tuple",data:= .seq #[.int i s.toks,u]}:=(hs₂.2 _ (Nat.ne_of_gt hel)).trans ht₁
  have kk:∀b o,b≠e→b≠it→s.heap.get? b=some o→h₂.get? b=some o:=fun b o h1 h2 q=>(hs₂.2 b h1).trans (hk₁ b o h1 h2 q)
  have hn:H s.heap.objs.size=none:=I.fresh
  have sm:aQ H (upd H s.heap.objs.size (.tup [.int i,x])):=bo hn
  have nit:∀b o,H b=some o→b≠e∧b≠it:=fun b o q=>⟨fun z=>(by rw[z,f0] at q;cases q),fun z=>(by rw[z,g0] at q;cases q)⟩
  have hok:lr X.prog X.w (upd H s.heap.objs.size (.tup [.int i,x])) h₂:=fun b ob q=>by
   by_cases hb:b=s.heap.objs.size
   ·subst hb
    rw[bc] at q
    cases q
    exact⟨by show 2≤sizeLine;decide,[.int i s.toks,u], .cons ⟨_,rfl⟩ (.cons ru .nil),⟨_,ht₂,rfl,_,rfl⟩⟩
   ·rw[ba hb] at q
    refine(I.hok b ob q).sM (fun c v hc z=>?_) (fun c z=>sm c _ z) fun c ys z=>sm c _ z
    rcases hc with rfl | hc
    ·exact kk c v (nit c _ q).1 (nit c _ q).2 z
    ·exact kk c v (nit c _ hc).1 (nit c _ hc).2 z
  have nch:∀b,b ∉ [e,it]→b≠e∧b≠it:=fun b hb=>⟨fun z=>hb (by simp [z]),fun z=>hb (by simp [z])⟩
  have I2:Inv X pins σ (upd H s.heap.objs.size (.tup [.int i,x])) {s with heap:=h₂,toks:=s.toks+1}:=by
   refine I.step (g':=s.gens) (d':=s.drawn) (ch:=[e,it]) (fun b hb=>?_) (fun b o _ _ hb q _=>kk b o (nch b hb).1 (nch b hb).2 q) (fun b o _ _ hb q _=>⟨o.slots,kk b o (nch b hb).1 (nch b hb).2 q⟩)
    (fun b o hb q n=>by rw[ba (Nat.ne_of_lt (Heap.lt_size q))];exact n) (fun b o hb q=>⟨o,kk b o (nch b hb).1 (nch b hb).2 q⟩) (fun b ys z=>sm b _ z) (fun b o u z=>sm b _ z) (fun b ps z=>⟨#[],by rw[sm b _ z];simp⟩) (fun m hm=>?_) hok I.bare
   ·rcases List.mem_cons.mp hb with rfl | hb
    ·exact⟨f3,f1,f4,f5⟩
    ·have z:b=it:=by simpa using hb
     subst z
     exact⟨g3,g1,g4,g5⟩
   ·obtain⟨o,es,ep,ho,r⟩:=hm
    exact⟨o,es,ep,kk _ o (Ne.symm f1) (Ne.symm g1) ho,r⟩
  refine⟨.ref s.heap.objs.size,_,I2,rfl,⟨s.heap.objs.size,x,hn,rfl,fun ys hy=>(by rw[I.ng hy hq];exact hx),rfl⟩,⟨⟨_,by simpa using he₂⟩,hit₁.at fun o q=>(hs₂.2 it (Ne.symm hei)).trans q⟩,fun b hb=>?_⟩
  rcases List.mem_cons.mp hb with rfl | hb
  ·rw[ba (Nat.ne_of_lt hel)];exact f0
  ·have z:b=it:=by simpa using hb
   subst z
   obtain⟨o,ho,_⟩:=hit
   rw[ba (Nat.ne_of_lt (Heap.lt_size ho))];exact g0
 done:=by
  intro X hP hw hK hc i pins s σ H E I hf st hg
  subst hP hw hK
  obtain⟨xs,hq,hx⟩:=hg
  obtain⟨its,rv,p,hz⟩:=I.list hq
  obtain⟨⟨old,he⟩,hit⟩:=st
  obtain⟨g0,g1,g2,g3,g4,g5⟩:=hf it (by simp)
  have hl:=rv.length
  exact wpAny_pyNext_enum_end (I.ok.hd hc) he hit p.isList (by simp;omega) fun h' eb=>⟨rfl,I.turned (t':=s.toks) (fun b o hb q=>eb b o hb q) g0 g1 g3 g4 g5⟩
 self:=fun A i s Q E st h=>let⟨⟨_,he⟩,_⟩:=st;wpAny_pyIter_enum he h
noncomputable def dO(ds:List D):List D:=ds.zipIdx.map fun p=> .tup [.int p.2,p.1]
noncomputable def ji(f:FD):av→R (List D):=fun δ=>(f δ).bind fun d=>match d with | .lst ds=> .ok (dO ds) | _=> .no
theorem vc{elts:List Expr}{k:Nat}{tpos:Pos}{a:Expr}{f:FD}{p pos:Pos}(h:PD X a f)(hg:Gl X "enumerate")(hm:X.mg "enumerate"=none)(hs:starEach [a] X.env=[(false,eval a X.env)]:=by rfl):GJ X (.Tuple elts k tpos) (.Call (.Name "enumerate" p) [a] [] pos) (ji f):=by
 intro pins s σ H RR I ⟨Z,B,δ,ds,E,hf,q⟩
 obtain⟨d,h1,h2⟩:=R.ak hf
 have hA:=gJ h jf hs pos pins s σ H (fun vs H1=>aQ H H1∧∃v,vs=[v]∧Rep X.K B H1 d v) I ⟨Z,B,δ,d,E,h1,fun v H1 s1 r1=>⟨s1,v,rfl,r1⟩⟩
 refine Call_ (j0 I hg hm boot_enumerate (PyProof.Rows.callWith_type1 (d5 hA fun us s1 ⟨vs,H1,I1,r1,ss,v,ev,rr⟩=>?_) hs rfl))
 subst ev
 obtain⟨u,rfl,ru⟩:=vals1 r1
 cases d with
 | lst es=>
   cases h2
   obtain⟨b,xs,rfl,l,rs⟩:=Rep.lst.mp rr
   cases ru
   obtain⟨its,n,rv,e1,hz⟩:=I1.GA l
   refine call_enumerate_list (items:=its.toArray) ⟨_,e1,rfl,n,rfl⟩ fun h' he hit hsz kk=>wpAny_pyIter_enum he ?_
   have I2:Inv X pins σ H1 {s1 with heap:=h'}:=I1.kept (t':=s1.toks) kk
   refine⟨s1.heap.objs.size+1,[s1.heap.objs.size+1,s1.heap.objs.size],_,_,H1,rfl,I2,yC b (s1.heap.objs.size+1) s1.heap.objs.size (Nat.succ_ne_self _),⟨⟨_,he⟩,hit⟩,fun c hc=>?_,q _ H1 ss fun B' H' pr=>?_⟩
   ·have hle:s1.heap.objs.size≤c:=by
     rcases List.mem_cons.mp hc with z | hc
     ·rw[z];exact Nat.le_succ _
     ·have z:c=s1.heap.objs.size:=by simpa using hc
      rw[z];exact Nat.le_refl _
    exact I1.qF hle (I1.hok.fresh hle)
   ·have l':qN X.K B' H' b xs:=l.bp pr
    have rs':=rs.bp pr
    refine⟨fun i d hd=>?_,⟨xs,l'.sq,by rw[←rs.length];unfold dO;simp⟩⟩
    unfold dO at hd
    rw[List.getElem?_map,List.getElem?_zipIdx] at hd
    cases e:es[i]? with
    | none=>rw [e] at hd;cases hd
    | some d0=>
      rw[e] at hd
      have hd:D.tup [.int ((0+i:Nat):Int),d0]=d:=Option.some.inj hd
      rw[Nat.zero_add] at hd
      obtain⟨x,hx,rx⟩:=rs'.get e
      refine⟨⟨xs,x,l'.sq,hx⟩,fun v H'' y hB'=>?_⟩
      obtain⟨p,y,hp,rfl,hy,rfl⟩:=y
      refine⟨bo hp,?_⟩
      subst hd
      have hy2:=hy xs l'.sq
      rw[hx] at hy2
      cases hy2
      refine Rep.tup.mpr ⟨p,_,rfl, .inl ⟨fun ha=>?_, .inl bc⟩,aF.cons (Rep.int.mpr rfl) (aF.cons (rx.same (bo hp)) aF.nil)⟩
      obtain⟨o,ho⟩:=hB' p ha
      rw[hp] at ho;cases ho
 | _=>cases h2
end
end L2
end
section
set_option maxRecDepth 100000
set_option maxHeartbeats 4000000
namespace L2
open PySem PySem.Spec PyProof.Rows
noncomputable def Def(K:PySem.W.Frag)(mg:Str→Option Value)(x:Str)(st:Stmt):Prop:=∃f fd,yc K x x st f fd∧mg x=some (.ref f)
noncomputable def Callee(P:Program)(w:World)(K:PySem.W.Frag)(mg:Str→Option Value)(base:Heap)(k:Nat)(x:Str)(n:Nat)(g:List D→R D):Prop:=
 ∃f fd ps,hJ P w K mg base qQ k f fd ps (Bq K n g)∧mg x=some (.ref f)∧PySem.W.keepIn K (.ref f)=true∧Binds K fd ps []
theorem cw:∀(δ:av) (ds:List D),aI δ= .ok ds→ds.length=0:=fun δ ds h=>by cases h;rfl
theorem aL{f:FD}{g:av→R (List D)}{n:Nat}(h:∀(δ:av) (ds:List D),g δ= .ok ds→ds.length=n):∀(δ:av) (ds:List D),aj f g δ= .ok ds→ds.length=n+1:=fun δ ds e=>by
 obtain⟨d,h1,h2⟩:=R.ak e
 obtain⟨es,h3,h4⟩:=R.ak h2
 cases h4
 rw[List.length_cons,h δ es h3]
theorem Bi{P:Program}{w:World}{K:PySem.W.Frag}{mg:Str→Option Value}{base:Heap}{x qual:Str}{st:Stmt}{f:Addr}{fd:FuncData}{N ps:List Str}{k:Nat}{F:FS}{b:List Stmt}{sc:Scope}(hb:ai st=b)(hs:ae st=sc)(Fn:yc K x qual st f fd)(S:aY N ps sc)
 (hbody:∀(cdv:Value) (A:Around) (outer:List Env) (s:Shared) (H:Hp) (E:XK),eI k (A.deeper (envOfC qual sc s.heap.objs.size f cdv))→
   oR (qg qQ P w K mg base N qual sc f cdv A outer s H E).C9 b F):hJ P w K mg base qQ (k+1) f fd ps (Bq K ps.length (mj N F)):=by
 subst hb hs
 exact Cj Fn S hbody
section
variable {X:Cx}
theorem zC{g:List D→R D}{k j n:Nat}{x:Str}{p pos:Pos}{e:Expr}{es:List Expr}{fs:av→R (List D)}(C:Callee X.prog X.w X.K X.mg X.base k x n g)(hr:eI j X.A)(hkj:k≤j)(hg:Gl X x)(ha:AU X (e ::es) fs)
 (hn:∀δ ds,fs δ= .ok ds→ds.length=n) (hdb:(x==("__debug__":Str))=false:=by decide) (he:starEach (e ::es) X.env=(false,eval e X.env) ::starEach es X.env:=by rfl) (hpl:(backTo pos (starEach es X.env)).any (·.1)=false:=by rfl) :
 PD X (.Call (.Name x p) (e ::es) [] pos) (aK g fs):=by
 obtain⟨f,fd,ps,F,hm,hk,hb⟩:=C
 exact B7 F (hr.mono hkj) hg hm hk hb ha hn hdb he hpl
noncomputable def HX(sc:Scope)(N:List Str)(scope:Scope)(kp:List Nat)(kn:List Str):Bool:=
 decide (scope.kind= .function) && scope.names.all (fun y=>decide (y.2= .cell→scope.names.lookup y.1=some .cell)) && scope.names.all (fun y=>decide (y.2= .local→scope.names.lookup y.1=some .local))
  && scope.names.all (fun y=>decide (y.2= .free→(sc.names.lookup y.1=some .cell∨sc.names.lookup y.1=some .free))) && scope.names.all (fun y=>decide (y.2= .free→scope.names.lookup y.1=some .free)) && decide (kn.length=kp.length)
  && (List.range kp.length).all (fun j=>decide ((kp[j]?).bind (N[·]?)=kn[j]?)) && kn.all (fun x=>decide (scope.names.lookup x=some .free))
theorem cf.of{scope:Scope}{own:List Str}{kp:List Nat}{kn:List Str}{sc:Scope}{N:List Str}(h1:X.env.scope=sc)(h2:X.N=N)(h:HX sc N scope kp kn=true):cf X scope own kp kn:=by
 unfold HX at h
 simp only[Bool.and_eq_true,decide_eq_true_eq,List.all_eq_true] at h
 obtain⟨⟨⟨⟨⟨⟨⟨a1,a2⟩,a3⟩,a4⟩,a8⟩,a5⟩,a6⟩,a7⟩:=h
 refine⟨a1,a2,a3,fun y hy hf=>?_,a8,a5,fun j i x hj hx=>?_,a7⟩
 ·have:=a4 y hy hf
  unfold Env.kindOf
  rw[h1]
  exact this
 ·have hlt:j < kp.length:=(List.getElem?_eq_some_iff.mp hj).1
  have:=a6 j (List.mem_range.mpr hlt)
  rw[hj] at this
  rw[h2]
  exact this.trans hx
noncomputable def EA(kvs:List (Key × V))(f g:FD):FD:=fun δ=>(f δ).bind fun k=>(g δ).bind fun d=>match k with
 | .str x=>(match kG (i_ [] kvs) (Sum.inr x) with | some (.int i)=> .ok (.int i) | none=> .ok d | _=> .no)
 | _=> .no
theorem Gb{keys:List (Option Expr)}{values:List Expr}{trs:List (TE × TE)}{dpos apos cpos:Pos}{e f:Expr}{fe ff:FD}{kvs:List (Key × V)}(hu:X.A.units+1 < cLine)(h:Fm X dpos keys values trs)(hall:keys.all (·.isSome)=true)(hl:keys.length=values.length)(h0:keys≠[])
 (hc:∀σ H Q,Q (kvs.map fun kv=>(kV kv.1,kv.2)) H→nQ trs σ H Q) (hlen:kvs.length≤15) (he:PD X e fe) (hf:PD X f ff) (m:M2 X (.Dict keys values dpos) "get" apos e f cpos)
 (hd:PE X (.Dict keys values dpos) (Br trs)):PD X (.Call (.Attribute (.Dict keys values dpos) "get" apos) [e,f] [] cpos) (EA kvs fe ff):=by
 refine(z_ hu hd he hf m).imp fun σ H Q ⟨Z,B,δ,d,E,hfd,q⟩=>?_
 obtain⟨k,h1,h2⟩:=R.ak hfd
 obtain⟨dd,h3,h4⟩:=R.ak h2
 intro p hp
 refine hc σ _ _ ⟨bc,kvs,rfl,hlen,p,rfl, .inl ⟨_, .inl bc⟩,?_⟩
 rw[DN]
 have s0:aQ H (upd H p (.dK (i_ [] kvs))):=bo hp
 refine⟨Z,B,δ,k,E.same s0,h1,fun v1 H1 s1 r1=>⟨Z,B,δ,dd,(E.same s0).same s1,h3,fun v2 H2 s2 r2=>?_⟩⟩
 have hH2:H2 p=some (.dK (i_ [] kvs)):=s2 p _ (s1 p _ bc)
 have sA:aQ H H2:=s0.trans (s1.trans s2)
 split at h4
 ·rename_i x
  refine⟨kG (i_ [] kvs) (Sum.inr x),?_,?_⟩
  ·rw[Rep.str.mp r1];exact qB.k (k:=Sum.inr x) hH2
  ·split at h4
   ·rename_i i e1
    cases h4
    rw[e1]
    exact q _ H2 sA (Rep.int.mpr rfl)
   ·rename_i e1
    cases h4
    rw[e1]
    exact q _ H2 sA r2
   ·cases h4
 ·cases h4
noncomputable def nW(i:Nat)(f:FD):FS:=fun δ=>(f δ).bind fun d=>match d with
 | .lst es=>(iZ δ i).bind fun ds=>R.bC (decide (ds.length+es.length≤sizeLine)) (.ok (.nx (δ.set i (.bld (ds++es)))))
 | _=> .no
end
end L2
end
section
set_option maxRecDepth 100000
set_option maxHeartbeats 4000000
namespace L2
open PySem PySem.Spec PyProof.Rows
structure QD (X:Cx) (e:Expr) (f:FD):Prop where
 h:PD X e f
structure QN (X:Cx) (e:Expr) (f:av→R (List D)):Prop where
 h:PN X e f
structure QB (X:Cx) (e:Expr) (f:av→R Bool):Prop where
 h:PB X e f
structure Fw (X:Cx) (e:Expr) (f:av→R Bool):Prop where
 h:BV X e f
structure Ck (X:Cx) (e:List Expr) (f:av→R (List D)):Prop where
 h:AU X e f
structure CU (X:Cx) (e:Stmt) (f:FS):Prop where
 h:BZ X e f
structure qC (X:Cx) (e:List Stmt) (f:FS):Prop where
 h:oR X e f
structure GF (X:Cx) (e:Expr) (f:FT):Prop where
 h:Fj X e f
structure DL (X:Cx) (e:List Expr) (f:AG):Prop where
 h:Au X e f
structure w_ (X:Cx) (tg e:Expr) (f:av→R (List D)):Prop where
 h:GJ X tg e f
structure QP (X:Cx) (e:Option Expr) (f:FO):Prop where
 h:PP X e f
structure QJ (X:Cx) (e:List Expr) (f:av→R (List Str)):Prop where
 h:PJ X e f
structure Eo (X:Cx) (e:List Expr) (c:av→R Bool):Prop where
 h:nM X e (Gv X.K c)
section
variable {X:Cx}
theorem di{e:Expr}{f:av→R (List D)}(h:QN X e f):QD X e (eNew f):=⟨FY h.1⟩
theorem t5{e:Expr}{f:FD}(h:QD X e f):QD X e (iV f):=⟨CH h.1⟩
theorem aa(i:Nat){x:Str}{pos:Pos}(hN:X.N[i]? =some x:=by rfl)(hv:D0 X.env.scope x:=by first | exact Or.inl rfl | exact Or.inr (Or.inl rfl) | exact Or.inr (Or.inr rfl))(hd:(x==("__debug__":Str))=false:=by decide)(hcd:(x==("__classdict__":Str))=false:=by decide):QD X (.Name x pos) (af i):=⟨Ff i hN hv hd hcd⟩
theorem ag{i j pos}:QD X (.Constant (.int i) j pos) (eC (.int i)):=⟨Er⟩
theorem pM{b j pos}:QD X (.Constant (.bool b) j pos) (eC (.bl b)):=⟨Hv⟩
theorem DU{j pos}:QD X (.Constant .none j pos) (eC .dk):=⟨Fe⟩
theorem aZ{x j pos}:QD X (.Constant (.str x) j pos) (eC (.str x)):=⟨EG⟩
theorem ah:Ck X [] aI:=⟨Cq⟩
theorem ab{e:Expr}{es:List Expr}{f:FD}{g:av→R (List D)}(h:QD X e f)(t:Ck X es g)(hs:starEach (e ::es) X.env=(false,eval e X.env) ::starEach es X.env:=by rfl):Ck X (e ::es) (aj f g):=⟨z8 h.1 t.1 hs⟩
theorem bE{es:List Expr}{g:av→R (List D)}{x1 pos}(h:Ck X es g):QD X (.Tuple es x1 pos) (cP g):=⟨FJ h.1⟩
theorem cV{es:List Expr}{g:av→R (List D)}{pos}(h:Ck X es g):QN X (.List es pos) (fJ g):=⟨FK h.1⟩
theorem aD{op:Operator}{g:D→D→R D}{a b:Expr}{fa fb:FD}{pos:Pos}(ho:ke X (binaryOp op) g)(ha:QD X a fa)(hb:QD X b fb):QD X (.BinOp a op b pos) (e2 g fa fb):=⟨HZ ho ha.1 hb.1⟩
theorem o3{op:CmpOp}{g:D→D→R D}{a b:Expr}{fa fb:FD}{pos:Pos}(ho:ke X (compareOp op) g)(ha:QD X a fa)(hb:QD X b fb)(hm:behindInMarks op b=false):QD X (.Compare a [op] [b] pos) (e2 g fa fb):=⟨F7 ho ha.1 hb.1 hm⟩
theorem bW{op:CmpOp}{g:D→D→R D}{a b:Expr}{fa fb:FD}{pos:Pos}(ho:ke X (compareOp op) g)(ha:QD X a fa)(hb:QD X b fb)(hm:behindInMarks op b=false):QB X (.Compare a [op] [b] pos) (b2 g fa fb):=⟨EB ho ha.1 hb.1 hm⟩
theorem xo{a:Expr}{f:FD}(ha:QD X a f)(he:∀whole,isTrue a X.env whole=(do let v ←whole;standAt a.pos;holding [v] (truthy v)):=by intro _;rfl):QB X a (k9 f):=⟨ED ha.1 he⟩
theorem sC{e:Expr}{f:av→R Bool}(h:Fw X e f):QB X e f:=⟨BV.pb h.1⟩
theorem rg{a:Expr}{f:av→R Bool}{pos:Pos}(h:QB X a f):Fw X (.BoolOp .And [a] pos) f:=⟨z0 h.1⟩
theorem Bm{a:Expr}{f:av→R Bool}{pos:Pos}(h:QB X a f):Fw X (.BoolOp .Or [a] pos) f:=⟨Co h.1⟩
theorem uZ{a b:Expr}{rest:List Expr}{f g:av→R Bool}{pos:Pos}(ha:QB X a f)(hb:Fw X (.BoolOp .And (b ::rest) pos) g):Fw X (.BoolOp .And (a ::b ::rest) pos) (mK f g):=⟨Dk ha.1 hb.1⟩
theorem Du{a b:Expr}{rest:List Expr}{f g:av→R Bool}{pos:Pos}(ha:QB X a f)(hb:Fw X (.BoolOp .Or (b ::rest) pos) g):Fw X (.BoolOp .Or (a ::b ::rest) pos) (vE f g):=⟨Fi ha.1 hb.1⟩
theorem xm{a:Expr}{f:av→R Bool}{pos:Pos}(ha:QB X a f):QB X (.UnaryOp .Not a pos) (k8 f):=⟨Gf ha.1⟩
theorem wc{c a b:Expr}{fc:av→R Bool}{f g:FD}{pos:Pos}(hc:QB X c fc)(ha:QD X a f)(hb:QD X b g):QD X (.IfExp c a b pos) (wx fc f g):=⟨G_ hc.1 ha.1 hb.1⟩
theorem aR{g:List D→R D}{x:Str}{id:String}{p pos:Pos}{e:Expr}{es:List Expr}{fs:av→R (List D)}(hc:cZ X (.builtin id) g)(hg:Gl X x)(hm:X.mg x=none)(hv:bootBuiltins x=some (.builtin id))(ha:Ck X (e ::es) fs)(hn:x≠"__name__":=by decide)(hdb:(x==("__debug__":Str))=false:=by decide)(he:starEach (e ::es) X.env=(false,eval e X.env) ::starEach es X.env:=by rfl)(hpl:(backTo pos (starEach es X.env)).any (·.1)=false:=by rfl):QD X (.Call (.Name x p) (e ::es) [] pos) (aK g fs):=⟨A5 hc hg hm hv ha.1 hn hdb he hpl⟩
theorem eN{g:List D→R D}{x:Str}{T:String}{p pos:Pos}{e:Expr}{es:List Expr}{fs:av→R (List D)}(hc:cZ X (.type T) g)(hg:Gl X x)(hm:X.mg x=none)(hv:bootBuiltins x=some (.type T))(ha:Ck X (e ::es) fs)(hn:x≠"__name__":=by decide)(hdb:(x==("__debug__":Str))=false:=by decide)(he:starEach (e ::es) X.env=(false,eval e X.env) ::starEach es X.env:=by rfl)(hpl:(backTo pos (starEach es X.env)).any (·.1)=false:=by rfl):QD X (.Call (.Name x p) (e ::es) [] pos) (aK g fs):=⟨yQ hc hg hm hv ha.1 hn hdb he hpl⟩
theorem du:qC X [] gU:=⟨Di⟩
theorem aV{st:Stmt}{rest:List Stmt}{F G:FS}(h1:CU X st F)(h2:qC X rest G):qC X (st ::rest) (dj F G):=⟨Bk h1.1 h2.1⟩
theorem aO{st:Stmt}{F:FS}(h1:CU X st F):qC X [st] F:=⟨DT h1.1⟩
theorem fm{i:Nat}{x:Str}{e:Expr}{f:FD}{pos pos':Pos}(hN:X.N.Nodup)(hi:X.N[i]? =some x)(hx:Loc X.env.scope x)(he:QD X e f)(hs:swapsWith e (some (.Name x pos')) pos.line X.env=pure false:=by rfl)(hf:X.fn x=true∨X.env.scope.names.lookup x=some .local:=by first | exact .inl rfl | exact .inr rfl | assumption):CU X (.Assign [.Name x pos'] e pos) (il i f):=⟨C5 hN hi hx he.1 hs hf⟩
theorem uk{i:Nat}{x:Str}{e:Expr}{f:av→R (List D)}{pos pos':Pos}(hN:X.N.Nodup)(hi:X.N[i]? =some x)(hx:Loc X.env.scope x)(he:QN X e f)(hs:swapsWith e (some (.Name x pos')) pos.line X.env=pure false:=by rfl)(hf:X.fn x=true∨X.env.scope.names.lookup x=some .local:=by first | exact .inl rfl | exact .inr rfl | assumption):CU X (.Assign [.Name x pos'] e pos) (lG i f):=⟨DF hN hi hx he.1 hs hf⟩
theorem pq{i:Nat}{x:Str}{e:Expr}{f:FD}{npos apos cpos pos:Pos}(hN:X.N[i]? =some x)(hv:D0 X.env.scope x)(he:QD X e f)(hd:(x==("__debug__":Str))=false:=by decide)(hcd:(x==("__classdict__":Str))=false:=by decide)(hs:starEach [e] X.env=(false,eval e X.env) ::starEach [] X.env:=by rfl)(hline:(apos.endLine==cpos.line)=true:=by rfl)(hfew:((backTo cpos (starEach [e] X.env)).all (fun x=>!x.1) && (backToKw cpos (keywordEach [] X.env)).all (fun x=>x.1.isSome)
 && decide (([e]:List Expr).length+([]:List Keyword).length+(if([]:List Keyword).isEmpty then 0 else 1) < 30))=true:=by rfl) (hsw:swapsWith (.Call (.Attribute (.Name x npos) "append" apos) [e] [] cpos) none pos.line X.env=pure false:=by rfl) (hbase:attributeBase (.Name x npos) "append" X.env (eval (.Name x npos) X.env)=eval (.Name x npos) X.env:=by rfl):CU X (.Expr (.Call (.Attribute (.Name x npos) "append" apos) [e] [] cpos) pos) (l0 i f):=⟨De hN hv he.1 hd hcd hs hline hfew hsw hbase⟩
theorem t7(i:Nat){sts:List Stmt}{F:FS}(h:qC X sts F):qC X sts (nk i F):=⟨Dy i h.1⟩
theorem bw{e:Expr}{f:FD}{pos:Pos}(he:QD X e f):CU X (.Return (some e) pos) (dQ f):=⟨Dx he.1⟩
theorem eF{c:Expr}{a b:List Stmt}{fc:av→R Bool}{F G:FS}{pos:Pos}(hc:QB X c fc)(ha:qC X a F)(hb:qC X b G):CU X (.If c a b pos) (mr fc F G):=⟨FL hc.1 ha.1 hb.1⟩
theorem aS{i:Nat}{x:Str}{pos:Pos}(hN:X.N.Nodup)(hi:X.N[i]? =some x)(hx:Loc X.env.scope x)(hf:X.fn x=true∨X.env.scope.names.lookup x=some .local:=by first | exact .inl rfl | exact .inr rfl | assumption):GF X (.Name x pos) (aJ i):=⟨AV hN hi hx hf⟩
theorem ic:DL X [] fU:=⟨Ay⟩
theorem cy{e:Expr}{es:List Expr}{t:FT}{u:AG}(h1:GF X e t)(h2:DL X es u)(hs:(assignEach (e ::es) X.env).map (·.2)=assign e X.env ::(assignEach es X.env).map (·.2):=by rfl):DL X (e ::es) (b_ t u):=⟨y7 h1.1 h2.1 hs⟩
theorem jz{es:List Expr}{k:Nat}{t:AG}{n:Nat}{pos:Pos}(hc:X.calm=true)(h:DL X es t)(hn:(assignEach es X.env).length=n:=by rfl)(hst:(assignEach es X.env).findIdx? (·.1)=none:=by rfl):GF X (.Tuple es k pos) (fS n t):=⟨Cd hc h.1 hn hst⟩
theorem Am{tg e:Expr}{f:FD}{t:FT}{pos:Pos}(he:QD X e f)(hg:GF X tg t)(hs:swapsWithSole [tg] e pos.line X.env=pure false:=by rfl)(hw:swappedStores [tg] e X.env=pure none:=by rfl)(h1:(assignEach [tg] X.env).map (·.2)=[assign tg X.env]:=by rfl):CU X (.Assign [tg] e pos) (oI f t):=⟨C2 he.1 hg.1 hs hw h1⟩
theorem cx{tg e:Expr}{f:FD}(h:QD X e f):w_ X tg e (et f):=⟨DC h.1⟩
theorem bG{tg a:Expr}{f:FD}{p pos:Pos}(h:QD X a f)(hg:Gl X "range")(hm:X.mg "range"=none)(hs:starEach [a] X.env=[(false,eval a X.env)]:=by rfl):w_ X tg (.Call (.Name "range" p) [a] [] pos) (dn f):=⟨we h.1 hg hm hs⟩
theorem fw{tg iter:Expr}{body:List Stmt}{it:av→R (List D)}{t:FT}{F:FS}{pos:Pos}(hp:PassesOwn (model X.prog X.w) X.A X.env X.xe)(hc:X.calm=true)(hi:w_ X tg iter it)(hg:GF X tg t)(hb:qC X body F)(hs:∀x,foldedSetIterable iter X.env x=pure x:=by intro _;rfl):CU X (.For tg iter body [] pos) (mE it t F):=⟨DR hp hc hi.1 hg.1 hb.1 hs⟩
theorem dR{scope:Scope}{own:List Str}{kp:List Nat}{kn:List Str}{tg iter elt:Expr}{ifs:List Expr}{it:av→R (List D)}{t:FT}{c:av→R Bool}{f:FD}{pos:Pos}(hc:X.calm=true)(C:cf X scope own kp kn)(hi:w_ X tg iter it)(hg:∀fp s H,GF (bJ X scope (own++kn) fp s H) tg t)(hif:∀fp s H,Eo (bJ X scope (own++kn) fp s H) ifs c)(he:∀fp s H,QD (bJ X scope (own++kn) fp s H) elt f)(hs:∀x,foldedSetIterable iter X.env x=pure x:=by intro _;rfl):QN X (.ListComp elt [⟨tg,iter,ifs,0⟩] scope pos) (fu it t c f own kp):=⟨Dm hc C hi.1 (fun fp s H=>(hg fp s H).1) (fun fp s H=>(hif fp s H).1) (fun fp s H=>(he fp s H).1) hs⟩
theorem dq:Eo X [] jH:=⟨BJ⟩
theorem Bh{e:Expr}{c:av→R Bool}(h:QB X e c):Eo X [e] c:=⟨DQ h.1⟩
theorem az{a b:Expr}{fa fb:FD}{pos:Pos}(ha:QD X a fa)(hb:QD X b fb)(hs:o7 b):QD X (.Subscript a b pos) (e2 cb fa fb):=⟨HJ ha.1 hb.1 hs⟩
theorem uf:QP X none j7:=⟨Dh⟩
theorem mN{e:Expr}{f:FD}(h:QD X e f):QP X (some e) (g6 f):=⟨CJ h.1⟩
theorem vO{e:Expr}{lo hi:Option Expr}{f:FD}{fl fh:FO}{p2 pos:Pos}(he:QD X e f)(hl:QP X lo fl)(hh:QP X hi fh):QD X (.Subscript e (.Slice lo hi none p2) pos) (wj f fl fh):=⟨GR he.1 hl.1 hh.1⟩
theorem nC{elts:List Expr}{k:Nat}{tpos:Pos}{a:Expr}{f:FD}{p pos:Pos}(h:QD X a f)(hg:Gl X "enumerate")(hm:X.mg "enumerate"=none)(hs:starEach [a] X.env=[(false,eval a X.env)]:=by rfl):w_ X (.Tuple elts k tpos) (.Call (.Name "enumerate" p) [a] [] pos) (ji f):=⟨vc h.1 hg hm hs⟩
theorem cA{P:Program}{w:World}{K:PySem.W.Frag}{mg:Str→Option Value}{base:Heap}{x qual:Str}{st:Stmt}{f:Addr}{fd:FuncData}{N ps:List Str}{k:Nat}{F:FS}{b:List Stmt}{sc:Scope}(hb:ai st=b)(hs:ae st=sc)(Fn:yc K x qual st f fd)(S:aY N ps sc)(hbody:∀(cdv:Value) (A:Around) (outer:List Env) (s:Shared) (H:Hp) (E:XK),eI k (A.deeper (envOfC qual sc s.heap.objs.size f cdv))→
 qC (qg qQ P w K mg base N qual sc f cdv A outer s H E).C9 b F):hJ P w K mg base qQ (k+1) f fd ps (Bq K ps.length (mj N F)):=Bi hb hs Fn S (fun cdv A outer s H E hr=>(hbody cdv A outer s H E hr).1)
theorem bU{g:List D→R D}{k j n:Nat}{x:Str}{p pos:Pos}{e:Expr}{es:List Expr}{fs:av→R (List D)}(C:Callee X.prog X.w X.K X.mg X.base k x n g)(hr:eI j X.A)(hkj:k≤j)(hg:Gl X x)(ha:Ck X (e ::es) fs)(hn:∀δ ds,fs δ= .ok ds→ds.length=n)(hdb:(x==("__debug__":Str))=false:=by decide)(he:starEach (e ::es) X.env=(false,eval e X.env) ::starEach es X.env:=by rfl)(hpl:(backTo pos (starEach es X.env)).any (·.1)=false:=by rfl):QD X (.Call (.Name x p) (e ::es) [] pos) (aK g fs):=⟨zC C hr hkj hg ha.1 hn hdb he hpl⟩
theorem CN{keys:List (Option Expr)}{values:List Expr}{trs:List (TE × TE)}{dpos apos cpos:Pos}{e f:Expr}{fe ff:FD}{kvs:List (Key × V)}(hu:X.A.units+1 < cLine)(h:Fm X dpos keys values trs)(hall:keys.all (·.isSome)=true)(hl:keys.length=values.length)(h0:keys≠[])(hc:∀σ H Q,Q (kvs.map fun kv=>(kV kv.1,kv.2)) H→nQ trs σ H Q)(hlen:kvs.length≤15)(he:QD X e fe)(hf:QD X f ff)(m:M2 X (.Dict keys values dpos) "get" apos e f cpos)(hd:PE X (.Dict keys values dpos) (Br trs)):QD X (.Call (.Attribute (.Dict keys values dpos) "get" apos) [e,f] [] cpos) (EA kvs fe ff):=⟨Gb hu h hall hl h0 hc hlen he.1 hf.1 m hd⟩
end
end L2
end
section
set_option maxRecDepth 100000
set_option maxHeartbeats 4000000
namespace L2
open PySem PySem.Spec PyProof.Rows
theorem zf{P:Program}{w:World}{K:PySem.W.Frag}{mg mb:Str→Option Value}{CX:AW}{k:Nat}{fa a:Addr}{fd:FuncData}{x:Str}{sp:Sp}{s₁:Shared}{vs:List Value}{ns:List Int}
 (KX:K.In s₁.heap) (hns:s₁.heap.Ns mainGlobals mg) (hb:s₁.heap.Ns builtinsNs mb) (hbb:∀x:Str,x≠"__name__"→mb x=bootBuiltins x) (hlim:s₁.heap.NoLimit) (hg:s₁.gens=#[])
 (ha:s₁.heap.get? a=some {cls:= .type "list",data:= .seq vs.toArray}) (hi:IntsAre vs ns) (hl:ns.length≤sizeLine) (hr:eI k callerA)
 (F:∀base:Heap,K.In base→base.Ns mainGlobals mg→hJ P w K mg base CX k fa fd [x] sp) (hbind:∀(s:Shared) (u:Value),BindsTo s fd ⟨[u],[]⟩ [(x,u)])
 (hsp:∀H:Hp,GQ H→qN K [] H a (ns.map V.int)→sp [.ref a] H (fun v _=>v= .bl true) fun _ _ _=>False)
 (hCX:∀H e s',CX [] H s₁ (fun _ _ _=>False) e s'→False) :
 codeAny (model P w) callerA (.call (.ref fa) ⟨[.ref a],[]⟩) (fun r s'=>r= .ok (.ret (.bool true))∧OldK s₁.heap s'.heap∧s'.os=s₁.os∧AllBare s'.gens) s₁:=by
 have rv:=rV hi
 have lenV:=hi.length
 have core:∀H:Hp,GQ H→qN K [] H a (ns.map V.int)→lr P w H s₁.heap→(∀b,H b≠none→b=a)→(H a≠none→K.lookup a=none)→
  codeAny (model P w) callerA (.call (.ref fa) ⟨[.ref a],[]⟩) (fun r s'=>r= .ok (.ret (.bool true))∧OldK s₁.heap s'.heap∧s'.os=s₁.os∧AllBare s'.gens) s₁:=by
  intro H hO hS hok hA hK
  have base_of:∀{b:Addr} {o:Obj},s₁.heap.get? b=some o→H b=none→(tp s₁.heap H).get? b=some o:=fun e n=>Ac e n
  have noA:∀{b:Addr} {o:Obj} {es:Array DictEntry} {ep:Nat},s₁.heap.get? b=some o→o.data= .dict es ep→H b=none:=fun {b o es ep} e d=>by
   cases q:H b with
   | none=>rfl
   | some u=>
     have e':b=a:=hA b (by rw[q];simp)
     subst e'
     rw[ha] at e;cases e
     have d':Data.seq vs.toArray _=Data.dict es ep:=d
     cases d'
  have nsK:∀{b:Addr} {m:Str→Option Value},s₁.heap.Ns b m→(tp s₁.heap H).Ns b m:=fun {b m} ⟨o,es,ep,e,d,r⟩=>⟨o,es,ep,base_of e (noA e d),d,r⟩
  have hKb:K.In (tp s₁.heap H):=fun b o e=>base_of (KX b o e) (by
   cases q:H b with
   | none=>rfl
   | some u=>
     have e':b=a:=hA b (by rw[q];simp)
     subst e'
     rw[hK (by rw[q];simp)] at e;cases e)
  have hM:Mod K mg (tp s₁.heap H):=⟨hKb,nsK hns,⟨mb,nsK hb,hbb⟩,let⟨mc,h1,h2⟩:=hlim;⟨mc,nsK h1,h2⟩⟩
  have e0:vV P w K mg (tp s₁.heap H) callerA [] s₁ H:=⟨rfl,hM,fun b o e=>Cr e,Nat.le_of_eq (yp _ _),trivial,fun b hb=>absurd (show b∈([]:List Addr) from hb) (by simp),hok, .of_eq hg⟩
  refine codeAny_mono ((F _ hKb (nsK hns)).run callerA [] s₁ H ⟨[.ref a],[]⟩ [.ref a] [.ref a] _ _ hr e0 (hbind s₁ (.ref a)) (.cons rfl .nil) (hsp H hO hS)) fun r s' h=>?_
  cases r with
  | error e=>exact(hCX H e s' h).elim
  | ok fl=>
    cases fl with
    | next=>exact False.elim h
    | brk=>exact False.elim h
    | cont=>exact False.elim h
    | ret u=>
      obtain⟨v,H',os,bare,un,hok',r',q⟩:=h
      have q':v= .bl true:=q
      subst q'
      obtain rfl:u=Value.bool true:=r'
      refine⟨rfl,OldK.of_keep fun b o e=>?_,os,bare⟩
      cases q:H b with
      | none=>exact un.keep b o e q (by intro z;exact absurd (show b∈([]:List Addr) from z) (by simp)) (by simp)
      | some u=>
        rcases hO b with z | ⟨ob,xs,z⟩
        ·rw[q] at z;cases z
        ·have z2:=un.frzs b ob _ z
         obtain⟨e1,_⟩:=hok b _ z
         obtain⟨e2,_⟩:=hok' b _ z2
         rw[e] at e1;cases e1
         exact e2
 cases hk:K.lookup a with
 | some o=>
   have e:=KX a o hk
   rw[ha] at e
   cases e
   refine core (fun _=>none) (fun _=> .inl rfl) (.inr ⟨vs,_,hk,by rw[List.length_map];exact hl,rv⟩) (fun b u z=>by have z':(none:Option HO)=some u:=z;cases z') (fun b z=>absurd rfl z) fun z=>absurd rfl z
 | none=>
   refine core (fun b=>if b=a then some (.iF {cls:= .type "list",data:= .seq vs.toArray} (.lst (ns.map V.int))) else none) (fun b=>?_) (.inl ⟨by simp, .inr ⟨{cls:= .type "list",data:= .seq vs.toArray},if_pos rfl⟩⟩) (fun b u z=>?_) (fun b z=>?_) fun _=>hk
   ·by_cases hb:b=a
    ·exact .inr ⟨_,_,if_pos hb⟩
    ·exact .inl (if_neg hb)
   ·by_cases hb:b=a
    ·have z':=(if_pos hb).symm.trans z
     cases z'
     subst hb
     exact⟨ha,by rw[List.length_map];exact hl,vs,_,rv,ha⟩
    ·have z':=(if_neg hb).symm.trans z
     cases z'
   ·by_cases hb:b=a
    ·exact hb
    ·exact absurd (if_neg hb) z
theorem ints_rep{K:PySem.W.Frag}{B:List Addr}{H:Hp}:∀ns:List Int,aF K B H (ns.map D.int) (ns.map V.int)
 | []=>aF.nil
 | n ::ns=>aF.cons (Rep.int.mpr rfl) (ints_rep ns)
theorem Hk{l:PySem.W.OpenLaw}{n k:Nat}{q:Program}{loose:List Str}{XP:(Str→Option Value)→Heap→Prop}{YP:World→Heap→Prop}{d:DefRec}{K:Params→PySem.W.Frag}{x:Str}{g:List D→R D}
 (hn:l.most=some n) (hn2:n≤sizeLine) (hdf:d.params.defaults=[]) (hr:eI k callerA) (hY:∀(w:World) (h:Heap),YP w h→(K w.params).In h)
 (F:∀(w:World) (mg:Str→Option Value) (fa:Addr) (h:Heap),(K w.params).In h→h.Ns mainGlobals mg→mg d.name=some (.ref fa)→
   ∃fd:FuncData,(∀(s:Shared) (u:Value),BindsTo s fd ⟨[u],[]⟩ [(x,u)])∧∀base:Heap,(K w.params).In base→base.Ns mainGlobals mg→hJ l.prog w (K w.params) mg base qQ k fa fd [x] (Bq (K w.params) 1 g))
 (hg:∀ns:List Int,ns.length≤n→g [.lst (ns.map D.int)]= .ok (.bl true)):PySem.W.WalkO q loose XP YP l.row.toRowW d [] (fun f vs=>PySem.call f vs):=by
 refine Att.uD hn hdf fun w s₀ s₁ mg mb fa o pm cd doc a vs ns G Y ho hd hcd hmg hobj hints hlen hgen=>?_
 have KX:=hY w _ Y
 obtain⟨fd,hb,hF⟩:=F w mg fa _ KX G.T.g hmg
 refine zf KX G.T.g G.T.b G.T.builtins G.T.nolimit hgen hobj hints (Nat.le_trans hlen hn2) hr hF hb (fun H hO hS=>?_) fun H e s' h=>h
 refine⟨rfl,[],[.lst (ns.map D.int)], .bl true,fun b hb=>(by cases hb),aF.cons (Rep.lst.mpr ⟨_,_,rfl,hS,ints_rep ns⟩) aF.nil,hg ns hlen,fun z H' _ r=>Rep.bl.mp r⟩
theorem cB{K:PySem.W.Frag}{h:Heap}{mg:Str→Option Value}{x:Str}{st:Stmt}{f:Addr}{oc:Value}{od an:Option Addr}{osl:Array (Option Value)}{kV doc pm cdv ct:Value}(X:K.In h)(G:h.Ns mainGlobals mg)(a:PySem.W.nsIn K mainGlobals x=some (some (.ref f)))
 (l:K.lookup f=some ⟨oc,od, .func (PySem.W.fnOf x x (f7 st) (ai st) (ae st) .none kV doc pm an cdv ct),osl⟩) (c:PySem.W.codeIn K cdv x=true) (k:PySem.W.keepIn K (.ref f)=true):Def K mg x st:=
 ⟨f,_,l4 l c k,PySem.W.mg_of X G a⟩
end L2
end
section
set_option maxRecDepth 100000
set_option maxHeartbeats 4000000
namespace L2
open PySem PySem.Spec PyProof.Rows
theorem pL{t:FT}{body:FS}:∀(ds:List D) (n:Nat) (P:Nat→av→Prop) {δ:av},P n δ→
 (∀i d δ,ds[i]? =some d→P (n+i) δ→∃δ',((t d δ).bind body)= .ok (.nx δ')∧P (n+i+1) δ')→∃δ',ll t body ds δ= .ok (.nx δ')∧P (n+ds.length) δ'
 | [],n,P,δ,h0,_=>⟨δ,rfl,h0⟩
 | d ::ds,n,P,δ,h0,hs=>by
   obtain⟨δ1,e1,p1⟩:=hs 0 d δ rfl h0
   obtain⟨δ2,e2,p2⟩:=pL ds (n+1) P p1 (fun i d' δ' hi hp=>by
    have:=hs (i+1) d' δ' (by simpa using hi) (by rw[show n+(i+1)=n+1+i by omega];exact hp)
    rw[show n+(i+1)+1=n+1+i+1 by omega] at this
    exact this)
   refine⟨δ2,?_,by rw[List.length_cons,show n+(ds.length+1)=n+1+ds.length by omega];exact p2⟩
   obtain⟨δ0,h1,h2⟩:=R.ak e1
   show(t d δ).bind (fun δ1=>(body δ1).bind fun o=>match o with | .nx δ2=>ll t body ds δ2 | .rt r=> .ok (.rt r))=_
   rw[h1,R.aH,h2,R.aH]
   exact e2
theorem fT{t:FT}{body:FS}{ds:List D}(P:Nat→av→Prop){δ:av}(h0:P 0 δ)
 (hs:∀i d δ,ds[i]? =some d→P i δ→∃δ',((t d δ).bind body)= .ok (.nx δ')∧P (i+1) δ'):∃δ',ll t body ds δ= .ok (.nx δ')∧P ds.length δ':=by
 have:=pL (t:=t) (body:=body) ds 0 P h0 (fun i d δ hi hp=>by simpa using hs i d δ hi (by simpa using hp))
 simpa using this
theorem BM{α:Type} [DecidableEq α]:∀(L F:List α),L.Nodup→(∀x∈L,x∈F)→L.length≤F.length
 | [],_,_,_=>Nat.zero_le _
 | x ::L,F,hn,hs=>by
   obtain⟨h1,h2⟩:=List.nodup_cons.mp hn
   have hx:x∈F:=hs x List.mem_cons_self
   have ih:=BM L (F.erase x) h2 (fun y hy=>(List.mem_erase_of_ne (fun(e:y=x)=>h1 (by rw[←e];exact hy))).mpr (hs y (List.mem_cons_of_mem _ hy)))
   rw[List.length_erase_of_mem hx] at ih
   have:0 < F.length:=List.length_pos_of_mem hx
   rw[List.length_cons]
   omega
theorem j3{α:Type}{xs:List α}{i:Int}(h0:0≤i)(h:i.toNat < xs.length):oJ xs i=some xs[i.toNat]:=by
 unfold oJ pW
 rw[if_pos h0,if_pos (by omega)]
 simp [h]
theorem strs_map:∀ss:List Str,strs? (ss.map D.str)=some ss
 | []=>rfl
 | s ::ss=>by show(strs? (ss.map D.str)).map (s ::·)=_;rw [strs_map ss];rfl
theorem ints_map:∀ss:List Int,ints? (ss.map D.int)=some ss
 | []=>rfl
 | s ::ss=>by show(ints? (ss.map D.int)).map (s ::·)=_;rw [ints_map ss];rfl
theorem C6{a b:Str}(h:a.cps.toList=b.cps.toList):a=b:=by
 obtain⟨a⟩:=a;obtain⟨b⟩:=b
 congr 1
 exact Array.toList_inj.mp h
theorem oZ(a b:Str):(a++b).cps.toList=a.cps.toList++b.cps.toList:=by
 show(a.cps++b.cps).toList=_
 simp
theorem bA{F G:FS}{δ δ1:av}{r:R Out}(h:F δ= .ok (.nx δ1))(h2:G δ1=r):dj F G δ=r:=by unfold dj;rw [h,R.aH];exact h2
theorem eX{f:av→R (List D)}{δ:av}{ds:List D}(h:f δ= .ok ds):eNew f δ= .ok (.lst ds):=by unfold eNew;rw [h];rfl
theorem n5{c:av→R Bool}{F G:FS}{δ:av}{r:R Out}(h:c δ= .ok true)(h2:F δ=r):mr c F G δ=r:=by unfold mr;rw [h,R.aH,if_pos rfl];exact h2
theorem iB{c:av→R Bool}{F G:FS}{δ:av}{r:R Out}(h:c δ= .ok false)(h2:G δ=r):mr c F G δ=r:=by unfold mr;rw [h,R.aH,if_neg (by decide)];exact h2
theorem gn{it:av→R (List D)}{t:FT}{F:FS}{δ:av}{ds:List D}{r:R Out}(h:it δ= .ok ds)(h2:ll t F ds δ=r):mE it t F δ=r:=by unfold mE;rw [h,R.aH];exact h2
theorem cI{f:FD}{δ:av}{d:D}(h:f δ= .ok d):dQ f δ= .ok (.rt d):=by unfold dQ;rw [h];rfl
theorem dm{N:List Str}{F:FS}{ds:List D}{d:D}(h:F (cY N ds)= .ok (.rt d)):mj N F ds= .ok d:=by unfold mj;rw [h];rfl
theorem bH{α:Type}{p:Prop} [Decidable p](r:R α)(h:p):R.bC (decide p) r=r:=by rw[decide_eq_true h];rfl
theorem fI{i:Nat}{f:FD}{δ:av}{d:D}(h:f δ= .ok d)(hi:i < δ.length):il i f δ= .ok (.nx (δ.set i (.val d))):=by unfold il;rw [h,R.aH,bH _ hi]
theorem B6{i:Nat}{f:av→R (List D)}{δ:av}{ds:List D}(h:f δ= .ok ds)(hi:i < δ.length):lG i f δ= .ok (.nx (δ.set i (.bld ds))):=by unfold lG;rw [h,R.aH,bH _ hi]
theorem sU{i:Nat}{f:FD}{δ:av}{d:D}{ds:List D}(h:f δ= .ok d)(hb:δ[i]? =some (.bld ds))(hl:ds.length < sizeLine):l0 i f δ= .ok (.nx (δ.set i (.bld (ds++[d])))):=by unfold l0 iZ;rw [h,R.aH,hb];show R.bC _ _=_;rw [bH _ hl]
theorem eu{it:av→R (List D)}{t:FT}{c:av→R Bool}{f:FD}{own:List Str}{kp:List Nat}{δ:av}{ds ys:List D}(h1:it δ= .ok ds)(h2:ds.length≤sizeLine)(h3:mz t c f (oH own kp δ) ds= .ok ys):fu it t c f own kp δ= .ok ys:=by unfold fu;rw [h1,R.aH,bH _ h2,h3]
theorem pB{ds:List D}{i:Int}{d:D}(h:oJ ds i=some d):cb (.lst ds) (.int i)= .ok d:=by unfold cb;simp only[h]
theorem qr{ds:List D}{i:Int}{d:D}(h:oJ ds i=some d):cb (.tup ds) (.int i)= .ok d:=by unfold cb;simp only[h]
theorem Bx{x:Str}{i:Int}{c:Nat}(hz:x.length≤sizeLine)(h:oJ x.cps.toList i=some c):cb (.str x) (.int i)= .ok (.str ⟨#[c]⟩):=by unfold cb;simp only[h,bH _ hz]
end L2
end
section
set_option maxRecDepth 100000
namespace L2
open PySem PySem.Spec PyProof.Rows
theorem ax{g:D→D→R D}{fa fb:FD}{δ:av}{a b:D}{r:R D}(ha:fa δ= .ok a)(hb:fb δ= .ok b)(h:g a b=r):e2 g fa fb δ=r:=by unfold e2;rw [ha,R.aH,hb,R.aH];exact h
theorem iW{g:D→D→R D}{fa fb:FD}{δ:av}{a b:D}{k:Bool}(ha:fa δ= .ok a)(hb:fb δ= .ok b)(h:g a b= .ok (.bl k)):b2 g fa fb δ= .ok k:=by unfold b2;rw [ax ha hb h];rfl
theorem ay{f:FD}{g:av→R (List D)}{δ:av}{d:D}{ds:List D}(h:f δ= .ok d)(h2:g δ= .ok ds):aj f g δ= .ok (d ::ds):=by unfold aj;rw [h,R.aH,h2];rfl
theorem aM{g:List D→R D}{fs:av→R (List D)}{δ:av}{ds:List D}{r:R D}(h:fs δ= .ok ds)(h2:g ds=r):aK g fs δ=r:=by unfold aK;rw [h,R.aH];exact h2
theorem t8{f:FD}{δ:av}{d:D}(h:f (jI δ)= .ok d)(ha:d.atom=true):iV f δ= .ok d:=by unfold iV;rw [h,R.aH,ha];rfl
theorem cK{g:av→R (List D)}{δ:av}{ds:List D}(h:g δ= .ok ds)(hl:ds.length≤sizeLine):cP g δ= .ok (.tup ds):=by unfold cP;rw [h,R.aH,bH _ hl]
theorem sO{g:av→R (List D)}{δ:av}{ds:List D}(h:g δ= .ok ds)(hl:ds.length≤sizeLine):fJ g δ= .ok ds:=by unfold fJ;rw [h,R.aH,bH _ hl]
theorem Cc{g:D→List D→R D}{f:FD}{fs:av→R (List D)}{δ:av}{x:Str}{ds:List D}{r:R D}(h:f δ= .ok (.str x))(h2:fs δ= .ok ds)(h3:g (.str x) ds=r):y6 "str" g f fs δ=r:=by
 unfold y6;rw [h,R.aH,h2,R.aH];exact h3
theorem Aq{f:FD}{fl fh:FO}{δ:av}{d:D}{lo hi:Option Int}{r:R D}(h:f δ= .ok d)(h1:fl δ= .ok lo)(h2:fh δ= .ok hi)(h3:Fg d lo hi=r):wj f fl fh δ=r:=by unfold wj;rw [h,R.aH,h1,R.aH,h2,R.aH];exact h3
theorem AL{f:FD}{δ:av}{i:Int}(h:f δ= .ok (.int i)):g6 f δ= .ok (some i):=by unfold g6;rw [h];rfl
theorem Gj{x:Str}{lo hi:Option Int}(h:x.length≤sizeLine):Fg (.str x) lo hi= .ok (.str (Txt.slice x lo hi)):=by unfold Fg;exact bH _ h
theorem xh{a b:Str}(h:a.length+b.length≤sizeLine):eE (.str a) (.str b)= .ok (.str (a++b)):=by unfold eE;exact bH _ h
theorem sR{a b:List D}(h:a.length+b.length≤sizeLine):eE (.lst a) (.lst b)= .ok (.lst (a++b)):=by unfold eE;exact bH _ h
theorem wK{a b:Int}(h:0 < b):gQ (.int a) (.int b)= .ok (.int (a % b)):=by unfold gQ tI;exact bH _ h
theorem d9{f:FD}{δ:av}{n:Nat}(h:f δ= .ok (.int n))(hn:n < 1000000):dn f δ= .ok (cc 0 n):=by
 unfold dn;rw [h,R.aH];show R.bC (decide (-(2 ^ 62)≤(n:Int)∧(n:Int) < 2 ^ 62)) _=_
 rw[bH _ ⟨by omega,by omega⟩,Int.toNat_natCast]
theorem iM{f:FD}{δ:av}{ds:List D}(h:f δ= .ok (.lst ds)):et f δ= .ok ds:=by unfold et;rw [h];rfl
theorem si{f:FD}{δ:av}{ds:List D}(h:f δ= .ok (.tup ds)):et f δ= .ok ds:=by unfold et;rw [h];rfl
theorem Fd{f:FD}{δ:av}{ds:List D}(h:f δ= .ok (.lst ds)):ji f δ= .ok (dO ds):=by unfold ji;rw [h];rfl
theorem lh(ds:List D):dz [.lst ds]= .ok (.int ds.length):=rfl
end L2
end
section
set_option maxRecDepth 100000
set_option maxHeartbeats 4000000
namespace L3
open PySem PySem.Spec PyProof.Rows L2
inductive V3 where
 | d (x:D) | loc (k:Nat) | lst (vs:List V3) | tup (vs:List V3)
inductive SO where
 | lst (ds:List D) | dct (kvs:List (Key × D)) | ins (c:Nat) (fs:List (Str × V3)) | iF
noncomputable abbrev aN:=List SO
inductive R3 (α:Type) where
 | ok (a:α) (S:aN) | ex (c:Nat) (S:aN) | no
noncomputable def R3.bind{α β:Type}:R3 α→(α→aN→R3 β)→R3 β
 | .ok a S,f=>f a S
 | .ex c S,_=> .ex c S
 | .no,_=> .no
theorem R3.ak{α β:Type}{r:R3 α}{f:α→aN→R3 β}{b:β}{S':aN}(h:r.bind f= .ok b S'):∃a S,r= .ok a S∧f a S= .ok b S':=by
 cases r with
 | ok a S=>exact⟨a,S,rfl,h⟩
 | ex c S=>cases h
 | no=>cases h
@[simp] theorem R3.aH{α β:Type}(a:α)(S:aN)(f:α→aN→R3 β):(R3.ok a S).bind f=f a S:=rfl
noncomputable def R3.bC{α:Type}(c:Bool)(r:R3 α):R3 α:=if c then r else .no
theorem R3.bj{α:Type}{c:Bool}{r:R3 α}{a:α}{S:aN}(h:R3.bC c r= .ok a S):c=true∧r= .ok a S:=by
 cases c with
 | true=>exact⟨rfl,h⟩
 | false=>cases h
noncomputable def R3.of{α:Type}(r:R α)(S:aN):R3 α:=match r with | .ok a=> .ok a S | _=> .no
theorem R3.of_ok{α:Type}{r:R α}{S S':aN}{a:α}(h:R3.of r S= .ok a S'):r= .ok a∧S'=S:=by
 cases r with
 | ok b=>cases h;exact⟨rfl,rfl⟩
 | ex c=>cases h
 | no=>cases h
structure P3 where
 r:List Addr
 z:List Addr
 f:List Addr
noncomputable def P3.b(ρ:P3):List Addr:=ρ.r.filter (fun a=>!ρ.f.contains a)++ρ.z
theorem P3.d6{ρ:P3}{a:Addr}:a∈ρ.b↔(a∈ρ.r∧a ∉ ρ.f)∨a∈ρ.z:=by
 unfold P3.b
 rw[List.mem_append,List.mem_filter]
 simp
noncomputable def P3.push(ρ:P3)(a:Addr):P3:=⟨ρ.r++[a],ρ.z,ρ.f⟩
noncomputable def P3.cut(ρ:P3)(n:Nat):P3:=⟨ρ.r.take n,ρ.z,ρ.f⟩
mutual
noncomputable def br(K:PySem.W.Frag)(ρ:P3)(H:Hp):V3→V→Prop
 | .d x,v=>Rep K ρ.b H x v
 | .loc k,v=>∃a,ρ.r[k]? =some a∧v= .ref a
 | .lst vs,v=>∃a xs,v= .ref a∧qN K ρ.b H a xs∧aC K ρ H vs xs
 | .tup vs,v=>∃a xs,v= .ref a∧rf K ρ.b H a xs∧aC K ρ H vs xs
noncomputable def aC(K:PySem.W.Frag)(ρ:P3)(H:Hp):List V3→List V→Prop
 | [],xs=>xs=[]
 | d ::ds,xs=>∃x r,xs=x ::r∧br K ρ H d x∧aC K ρ H ds r
end
structure Pre (ρ:P3) (H:Hp) (ρ':P3) (H':Hp):Prop where
 bp:dM ρ.b H ρ'.b H'
 zz:ρ'.z=ρ.z
 zs:∀(b:Addr) (o:HO),b∈ρ.z→H b=some o→H' b=some o
 ext:∀(k:Nat) (a:Addr),ρ.r[k]? =some a→ρ'.r[k]? =some a
theorem Pre.refl(ρ:P3)(H:Hp):Pre ρ H ρ H:=⟨dM.refl ρ.b H,rfl,fun _ _ _ h=>h,fun _ _ h=>h⟩
theorem Pre.trans{ρ ρ' ρ'':P3}{H H' H'':Hp}(a:Pre ρ H ρ' H')(b:Pre ρ' H' ρ'' H''):Pre ρ H ρ'' H'':=⟨a.bp.trans b.bp,b.zz.trans a.zz,fun c o hc h=>b.zs c o (by rw[a.zz];exact hc) (a.zs c o hc h),fun k x h=>b.ext k x (a.ext k x h)⟩
theorem Pre.same{ρ:P3}{H H':Hp}(s:aQ H H'):Pre ρ H ρ H':=⟨dM.same s,rfl,fun b o _ h=>s b o h,fun _ _ h=>h⟩
theorem rf.bp{K:PySem.W.Frag}{B B':List Addr}{H H':Hp}(p:dM B H B' H'){a:Addr}{xs:List V}(l:rf K B H a xs):rf K B' H' a xs:=
 l.elim (fun z=> .inl ⟨(p.rd z.2 z.1).2,(p.rd z.2 z.1).1⟩) .inr
mutual
theorem br.pre{K:PySem.W.Frag}{ρ ρ':P3}{H H':Hp}(p:Pre ρ H ρ' H'):∀{d:V3} {v:V},br K ρ H d v→br K ρ' H' d v
 | .d x,v,h=>by unfold br at h ⊢;exact h.bp p.bp
 | .loc k,v,h=>by unfold br at h ⊢;obtain⟨a,h1,h2⟩:=h;exact⟨a,p.ext k a h1,h2⟩
 | .lst vs,v,h=>by unfold br at h ⊢;obtain⟨a,xs,e,l,r⟩:=h;exact⟨a,xs,e,l.bp p.bp,aC.pre p r⟩
 | .tup vs,v,h=>by unfold br at h ⊢;obtain⟨a,xs,e,l,r⟩:=h;exact⟨a,xs,e,rf.bp p.bp l,aC.pre p r⟩
theorem aC.pre{K:PySem.W.Frag}{ρ ρ':P3}{H H':Hp}(p:Pre ρ H ρ' H'):∀{ds:List V3} {xs:List V},aC K ρ H ds xs→aC K ρ' H' ds xs
 | [],_,h=>by unfold aC at h ⊢;exact h
 | d ::ds,xs,h=>by
   unfold aC at h ⊢
   obtain⟨x,r,e,h1,h2⟩:=h
   exact⟨x,r,e,br.pre p h1,aC.pre p h2⟩
end
structure PW (ρ:P3) (H:Hp) (ρ':P3) (H':Hp):Prop where
 bp:dM ρ.b H ρ'.b H'
 ext:∀(k:Nat) (a:Addr),ρ.r[k]? =some a→ρ'.r[k]? =some a
theorem Pre.pw{ρ ρ':P3}{H H':Hp}(p:Pre ρ H ρ' H'):PW ρ H ρ' H':=⟨p.bp,p.ext⟩
theorem PW.trans{ρ ρ' ρ'':P3}{H H' H'':Hp}(a:PW ρ H ρ' H')(b:PW ρ' H' ρ'' H''):PW ρ H ρ'' H'':=⟨a.bp.trans b.bp,fun k x h=>b.ext k x (a.ext k x h)⟩
mutual
theorem br.pw{K:PySem.W.Frag}{ρ ρ':P3}{H H':Hp}(p:PW ρ H ρ' H'):∀{d:V3} {v:V},br K ρ H d v→br K ρ' H' d v
 | .d x,v,h=>by unfold br at h ⊢;exact h.bp p.bp
 | .loc k,v,h=>by unfold br at h ⊢;obtain⟨a,h1,h2⟩:=h;exact⟨a,p.ext k a h1,h2⟩
 | .lst vs,v,h=>by unfold br at h ⊢;obtain⟨a,xs,e,l,r⟩:=h;exact⟨a,xs,e,l.bp p.bp,aC.pw p r⟩
 | .tup vs,v,h=>by unfold br at h ⊢;obtain⟨a,xs,e,l,r⟩:=h;exact⟨a,xs,e,rf.bp p.bp l,aC.pw p r⟩
theorem aC.pw{K:PySem.W.Frag}{ρ ρ':P3}{H H':Hp}(p:PW ρ H ρ' H'):∀{ds:List V3} {xs:List V},aC K ρ H ds xs→aC K ρ' H' ds xs
 | [],_,h=>by unfold aC at h ⊢;exact h
 | d ::ds,xs,h=>by
   unfold aC at h ⊢
   obtain⟨x,r,e,h1,h2⟩:=h
   exact⟨x,r,e,br.pw p h1,aC.pw p h2⟩
end
theorem aC.nil{K:PySem.W.Frag}{ρ:P3}{H:Hp}:aC K ρ H [] []:=by unfold aC;rfl
theorem aC.cons{K:PySem.W.Frag}{ρ:P3}{H:Hp}{d:V3}{ds:List V3}{x:V}{xs:List V}(h:br K ρ H d x)(t:aC K ρ H ds xs):aC K ρ H (d ::ds) (x ::xs):=by
 unfold aC;exact⟨x,xs,rfl,h,t⟩
theorem aC.cn{K:PySem.W.Frag}{ρ:P3}{H:Hp}{d:V3}{ds:List V3}{xs:List V}(h:aC K ρ H (d ::ds) xs):∃x r,xs=x ::r∧br K ρ H d x∧aC K ρ H ds r:=by
 unfold aC at h;exact h
theorem aC.length{K:PySem.W.Frag}{ρ:P3}{H:Hp}:∀{ds:List V3} {xs:List V},aC K ρ H ds xs→ds.length=xs.length
 | [],_,h=>by unfold aC at h;rw [h];rfl
 | d ::ds,xs,h=>by
   obtain⟨x,r,rfl,_,h2⟩:=h.cn
   simp [h2.length]
theorem aC.of{K:PySem.W.Frag}{ρ:P3}{H:Hp}:∀{ds:List D} {xs:List V},aF K ρ.b H ds xs→aC K ρ H (ds.map .d) xs
 | [],_,h=>by unfold aF at h;subst h;exact aC.nil
 | d ::ds,xs,h=>by
   obtain⟨x,r,rfl,h1,h2⟩:=h.cn
   exact aC.cons (by unfold br;exact h1) (aC.of h2)
theorem aC.to{K:PySem.W.Frag}{ρ:P3}{H:Hp}:∀{ds:List D} {xs:List V},aC K ρ H (ds.map .d) xs→aF K ρ.b H ds xs
 | [],_,h=>by unfold aC at h;subst h;exact aF.nil
 | d ::ds,xs,h=>by
   obtain⟨x,r,rfl,h1,h2⟩:=aC.cn h
   unfold br at h1
   exact aF.cons h1 (aC.to h2)
noncomputable def Bg(K:PySem.W.Frag)(cl:Nat→Addr)(ρ:P3)(H:Hp):SO→Option HO→Prop
 | .lst ds,h=>∃xs,h=some (.lst xs)∧aF K ρ.b H ds xs
 | .dct kvs,h=>∃ys,h=some (.dK ys)∧ys.map (·.1)=kvs.map (·.1)∧aF K ρ.b H (kvs.map (·.2)) (ys.map (·.2))
 | .ins c fs,h=>∃dx ys,h=some (.ins (cl c) dx ys)∧ys.map (·.1)=fs.map (·.1)∧aC K ρ H (fs.map (·.2)) (ys.map (·.2))
 | .iF,h=>∃u,h=some u
theorem Bg.pre{K:PySem.W.Frag}{cl:Nat→Addr}{ρ ρ':P3}{H H':Hp}(p:Pre ρ H ρ' H'){o:SO}{h:Option HO}(r:Bg K cl ρ H o h):Bg K cl ρ' H' o h:=by
 cases o with
 | lst ds=>obtain⟨xs,e,q⟩:=r;exact⟨xs,e,q.bp p.bp⟩
 | dct kvs=>obtain⟨ys,e,e2,q⟩:=r;exact⟨ys,e,e2,q.bp p.bp⟩
 | ins c fs=>obtain⟨dx,ys,e,e2,q⟩:=r;exact⟨dx,ys,e,e2,q.pre p⟩
 | iF=>exact r
theorem Bg.pw{K:PySem.W.Frag}{cl:Nat→Addr}{ρ ρ':P3}{H H':Hp}(p:PW ρ H ρ' H'){o:SO}{h:Option HO}(r:Bg K cl ρ H o h):Bg K cl ρ' H' o h:=by
 cases o with
 | lst ds=>obtain⟨xs,e,q⟩:=r;exact⟨xs,e,q.bp p.bp⟩
 | dct kvs=>obtain⟨ys,e,e2,q⟩:=r;exact⟨ys,e,e2,q.bp p.bp⟩
 | ins c fs=>obtain⟨dx,ys,e,e2,q⟩:=r;exact⟨dx,ys,e,e2,q.pw p⟩
 | iF=>exact r
theorem Bg.some{K:PySem.W.Frag}{cl:Nat→Addr}{ρ:P3}{H:Hp}{o:SO}{h:Option HO}(r:Bg K cl ρ H o h):∃u,h=some u:=by
 cases o with
 | lst ds=>obtain⟨xs,e,q⟩:=r;exact⟨_,e⟩
 | dct kvs=>obtain⟨ys,e,e2,q⟩:=r;exact⟨_,e⟩
 | ins c fs=>obtain⟨dx,ys,e,e2,q⟩:=r;exact⟨_,e⟩
 | iF=>exact r
structure SW (K:PySem.W.Frag) (cl:Nat→Addr) (ρ:P3) (H:Hp) (S:aN):Prop where
 len:ρ.r.length=S.length
 nd:∀(i j:Nat) (a:Addr),ρ.r[i]? =some a→ρ.r[j]? =some a→i=j
 ob:∀(k:Nat) (a:Addr) (o:SO),ρ.r[k]? =some a→S[k]? =some o→Bg K cl ρ H o (H a)
 zb:∀b∈ρ.z,(∃xs,H b=some (.lst xs))∧b ∉ ρ.r
 fz:∀(k:Nat) (a:Addr),ρ.r[k]? =some a→S[k]?≠some .iF→a ∉ ρ.f
 ff:∀a∈ρ.f,∃o,H a=some o
 fi:∀(k:Nat) (a:Addr),ρ.r[k]? =some a→S[k]? =some .iF→a∈ρ.f
theorem SW.rs{K:PySem.W.Frag}{cl:Nat→Addr}{ρ:P3}{H:Hp}{S:aN}(w:SW K cl ρ H S):∀a∈ρ.r,∃o,H a=some o:=fun a z=>by
 obtain⟨k,hk⟩:=List.getElem?_of_mem z
 have hl:=(List.getElem?_eq_some_iff.mp hk).1
 exact(w.ob k a _ hk (List.getElem?_eq_getElem (by rw[←w.len];exact hl))).some
theorem SW.bs{K:PySem.W.Frag}{cl:Nat→Addr}{ρ:P3}{H:Hp}{S:aN}(w:SW K cl ρ H S):∀a∈ρ.b,∃o,H a=some o:=fun a ha=>by
 rcases P3.d6.mp ha with z | z
 ·exact w.rs a z.1
 ·obtain⟨xs,h⟩:=(w.zb a z).1
  exact⟨_,h⟩
theorem SW.same{K:PySem.W.Frag}{cl:Nat→Addr}{ρ:P3}{H H':Hp}{S:aN}(w:SW K cl ρ H S)(s:aQ H H'):SW K cl ρ H' S:=
 ⟨w.len,w.nd,fun k a o h1 h2=>by
   have r:=w.ob k a o h1 h2
   obtain⟨u,hu⟩:=r.some
   rw[s a u hu,←hu]
   exact r.pre (Pre.same s),fun b hb=>let⟨⟨o,ho⟩,n⟩:=w.zb b hb;⟨⟨o,s b _ ho⟩,n⟩,w.fz,fun a ha=>let⟨o,ho⟩:=w.ff a ha;⟨o,s a o ho⟩,w.fi⟩
theorem P3.mem_push{ρ:P3}{a b:Addr}(h:b∈(ρ.push a).b):b∈ρ.b∨b=a:=by
 rcases P3.d6.mp h with⟨z,n⟩ | z
 ·rcases List.mem_append.mp z with y | y
  ·exact .inl (P3.d6.mpr (.inl ⟨y,n⟩))
  ·exact .inr (List.mem_singleton.mp y)
 ·exact .inl (P3.d6.mpr (.inr z))
theorem SW.new{K:PySem.W.Frag}{cl:Nat→Addr}{ρ:P3}{H H':Hp}{S:aN}(w:SW K cl ρ H S){a:Addr}{o:SO}(s:aQ H H')(n:H a=none)(r:Bg K cl (ρ.push a) H' o (H' a))(hne:o≠SO.iF:=by intro h;cases h) :
 SW K cl (ρ.push a) H' (S++[o])∧Pre ρ H (ρ.push a) H':=by
 have na:a ∉ ρ.b:=fun ha=>by obtain⟨o,ho⟩:=w.bs a ha;rw [n] at ho;cases ho
 have nr:a ∉ ρ.r:=fun ha=>by obtain⟨o,ho⟩:=w.rs a ha;rw [n] at ho;cases ho
 have nf:a ∉ ρ.f:=fun ha=>by obtain⟨o,ho⟩:=w.ff a ha;rw [n] at ho;cases ho
 have p:Pre ρ H (ρ.push a) H':=⟨fun b u e nb=>⟨s b u e,fun hb=>by
  rcases P3.mem_push hb with z | z
  ·exact nb z
  ·subst z;rw [n] at e;cases e⟩,rfl,fun b o _ h=>s b o h,fun k x hx=>by
   show(ρ.r++[a])[k]? =_
   rw[List.getElem?_append_left (List.getElem?_eq_some_iff.mp hx).1];exact hx⟩
 have last:∀(i:Nat) (b:Addr),(ρ.push a).r[i]? =some b→(i < ρ.r.length∧ρ.r[i]? =some b)∨(i=ρ.r.length∧b=a):=fun i b h=>by
  have h:(ρ.r++[a])[i]? =some b:=h
  by_cases q:i < ρ.r.length
  ·rw[List.getElem?_append_left q] at h;exact .inl ⟨q,h⟩
  ·rw[List.getElem?_append_right (by omega)] at h
   have h0:i - ρ.r.length=0:=by
    have:=(List.getElem?_eq_some_iff.mp h).1
    simp at this;omega
   rw[h0] at h
   cases h
   exact .inr ⟨by omega,rfl⟩
 refine⟨⟨by show(ρ.r++[a]).length=_;rw [List.length_append,List.length_append,w.len];rfl,fun i j b hi hj=>?_,fun k b u hk hu=>?_,fun b hb=>?_,fun k b hk hu=>?_,fun b hb=>?_,fun k b hk hu=>?_⟩,p⟩
 ·rcases last i b hi with⟨q1,q2⟩ | ⟨q1,rfl⟩
  ·rcases last j b hj with⟨z1,z2⟩ | ⟨z1,rfl⟩
   ·exact w.nd i j b q2 z2
   ·exact absurd (List.mem_of_getElem? q2) nr
  ·rcases last j b hj with⟨z1,z2⟩ | ⟨z1,z3⟩
   ·exact absurd (List.mem_of_getElem? z2) nr
   ·omega
 ·rcases last k b hk with⟨q1,q2⟩ | ⟨q1,rfl⟩
  ·rw[List.getElem?_append_left (by rw[←w.len];exact q1)] at hu
   have r0:=w.ob k b u q2 hu
   obtain⟨x,hx⟩:=r0.some
   rw[s b x hx,←hx]
   exact r0.pre p
  ·rw[List.getElem?_append_right (by rw[←w.len];omega),q1,w.len,Nat.sub_self] at hu
   cases hu
   exact r
 ·obtain⟨⟨o,ho⟩,nb⟩:=w.zb b hb
  refine⟨⟨o,s b _ ho⟩,fun h=>?_⟩
  rcases List.mem_append.mp h with y | y
  ·exact nb y
  ·rw[List.mem_singleton] at y;subst y;rw [n] at ho;cases ho
 ·rcases last k b hk with⟨q1,q2⟩ | ⟨q1,rfl⟩
  ·rw[List.getElem?_append_left (by rw[←w.len];exact q1)] at hu
   exact w.fz k b q2 hu
  ·exact nf
 ·obtain⟨o,ho⟩:=w.ff b hb
  exact⟨o,s b o ho⟩
 ·rcases last k b hk with⟨q1,q2⟩ | ⟨q1,rfl⟩
  ·rw[List.getElem?_append_left (by rw[←w.len];exact q1)] at hu
   exact w.fi k b q2 hu
  ·rw[List.getElem?_append_right (by rw[←w.len];omega),q1,w.len,Nat.sub_self] at hu
   cases hu
   exact absurd rfl hne
theorem SW.put{K:PySem.W.Frag}{cl:Nat→Addr}{ρ:P3}{H:Hp}{S:aN}(w:SW K cl ρ H S){k:Nat}{a:Addr}{o:SO}{u:HO}(hk:ρ.r[k]? =some a)(hf:a ∉ ρ.f)(r:Bg K cl ρ H o (some u))(hne:o≠SO.iF:=by intro h;cases h) :
 SW K cl ρ (upd H a u) (S.set k o)∧Pre ρ H ρ (upd H a u):=by
 have ha:a∈ρ.r:=List.mem_of_getElem? hk
 have hb:a∈ρ.b:=P3.d6.mpr (.inl ⟨ha,hf⟩)
 have nz:∀b∈ρ.z,b≠a:=fun b hb z=>(w.zb b hb).2 (by rw[z];exact ha)
 have p:Pre ρ H ρ (upd H a u):=⟨fun b x e nb=>⟨by rw[ba (fun(z:b=a)=>nb (by rw[z];exact hb))];exact e,nb⟩,rfl,fun b o hb h=>by rw[ba (nz b hb)];exact h,fun _ _ h=>h⟩
 have hl:k < S.length:=by rw[←w.len];exact(List.getElem?_eq_some_iff.mp hk).1
 refine⟨⟨by rw[List.length_set];exact w.len,w.nd,fun j b x hj hx=>?_,fun b hb=>?_,fun j b hj hx=>?_,fun b hb=>?_,fun j b hj hx=>?_⟩,p⟩
 ·by_cases q:k=j
  ·subst q
   rw[hk] at hj;cases hj
   rw[List.getElem?_set_self hl] at hx;cases hx
   rw[bc]
   exact r.pre p
  ·rw[List.getElem?_set_ne q] at hx
   have ne:b≠a:=fun z=>by subst z;exact q (w.nd k j b hk hj)
   rw[ba ne]
   exact(w.ob j b x hj hx).pre p
 ·obtain⟨⟨o,ho⟩,nb⟩:=w.zb b hb
  exact⟨⟨o,by rw[ba (nz b hb)];exact ho⟩,nb⟩
 ·by_cases q:k=j
  ·subst q
   rw[hk] at hj;cases hj
   exact hf
  ·rw[List.getElem?_set_ne q] at hx
   exact w.fz j b hj hx
 ·obtain⟨o,ho⟩:=w.ff b hb
  exact⟨o,by rw[ba (fun z=>hf (by rw[←z];exact hb))];exact ho⟩
 ·by_cases q:k=j
  ·subst q
   rw[List.getElem?_set_self hl] at hx;cases hx
   exact absurd rfl hne
  ·rw[List.getElem?_set_ne q] at hx
   exact w.fi j b hj hx
theorem SW.iF{K:PySem.W.Frag}{cl:Nat→Addr}{ρ:P3}{H:Hp}{S:aN}(w:SW K cl ρ H S){k:Nat}{a:Addr}{ds:List D}(hk:ρ.r[k]? =some a)(hS:S[k]? =some (.lst ds)) :
 SW K cl ⟨ρ.r,ρ.z,a ::ρ.f⟩ H (S.set k .iF)∧Pre ρ H ⟨ρ.r,ρ.z,a ::ρ.f⟩ H∧Rep K (⟨ρ.r,ρ.z,a ::ρ.f⟩:P3).b H (.lst ds) (.ref a):=by
 have hl:k < S.length:=by rw[←w.len];exact(List.getElem?_eq_some_iff.mp hk).1
 have sub:∀b,b∈(⟨ρ.r,ρ.z,a ::ρ.f⟩:P3).b→b∈ρ.b:=fun b hb=>by
  rcases P3.d6.mp hb with⟨z,n⟩ | z
  ·exact P3.d6.mpr (.inl ⟨z,fun h=>n (List.mem_cons_of_mem _ h)⟩)
  ·exact P3.d6.mpr (.inr z)
 have p:Pre ρ H ⟨ρ.r,ρ.z,a ::ρ.f⟩ H:=⟨fun b o e nb=>⟨e,fun hb=>nb (sub b hb)⟩,rfl,fun _ _ _ h=>h,fun _ _ h=>h⟩
 obtain⟨xs,e1,r1⟩:=w.ob k a _ hk hS
 refine⟨⟨by rw[List.length_set];exact w.len,w.nd,fun j b x hj hx=>?_,w.zb,fun j b hj hx=>?_,fun b hb=>?_,fun j b hj hx=>?_⟩,p,?_⟩
 ·by_cases q:k=j
  ·subst q
   rw[List.getElem?_set_self hl] at hx;cases hx
   rw[hk] at hj;cases hj
   exact⟨_,e1⟩
  ·rw[List.getElem?_set_ne q] at hx
   exact(w.ob j b x hj hx).pre p
 ·by_cases q:k=j
  ·subst q
   rw[List.getElem?_set_self hl] at hx
   exact absurd rfl hx
  ·rw[List.getElem?_set_ne q] at hx
   intro h
   rcases List.mem_cons.mp h with z | z
   ·subst z;exact q (w.nd k j b hk hj)
   ·exact w.fz j b hj hx z
 ·rcases List.mem_cons.mp hb with z | z
  ·subst z;exact⟨_,e1⟩
  ·exact w.ff b z
 ·by_cases q:k=j
  ·subst q
   rw[hk] at hj;cases hj
   exact List.mem_cons_self
  ·rw[List.getElem?_set_ne q] at hx
   exact List.mem_cons_of_mem _ (w.fi j b hj hx)
 ·refine Rep.lst.mpr ⟨a,xs,rfl, .inl ⟨fun hb=>?_, .inl e1⟩,r1.bp p.bp⟩
  rcases P3.d6.mp hb with⟨_,n⟩ | z
  ·exact n List.mem_cons_self
  ·exact(w.zb a z).2 (List.mem_of_getElem? hk)
mutual
noncomputable def ka:D→Bool
 | .lst _=>false
 | .dct _ _=>false
 | .tup ds=>mC ds
 | _=>true
noncomputable def mC:List D→Bool
 | []=>true
 | d ::ds=>ka d && mC ds
end
mutual
theorem Rep.uQ{K:PySem.W.Frag}{B:List Addr}{H:Hp}(hB:∀b∈B,∀xs,¬Rd H b (.tup xs)):∀{d:D} {v:V},ka d=true→Rep K [] H d v→Rep K B H d v
 | .dk,v,_,r=>Rep.dk.mpr (Rep.dk.mp r)
 | .bl _,v,_,r=>Rep.bl.mpr (Rep.bl.mp r)
 | .int _,v,_,r=>Rep.int.mpr (Rep.int.mp r)
 | .str _,v,_,r=>Rep.str.mpr (Rep.str.mp r)
 | .lst _,v,h,_=>by unfold ka at h;cases h
 | .dct _ _,v,h,_=>by unfold ka at h;cases h
 | .tup ds,v,h,r=>by
   unfold ka at h
   obtain⟨a,xs,rfl,l,rs⟩:=Rep.tup.mp r
   exact Rep.tup.mpr ⟨a,xs,rfl,l.elim (fun z=> .inl ⟨fun hb=>hB a hb xs z.2,z.2⟩) .inr,aF.uQ hB h rs⟩
theorem aF.uQ{K:PySem.W.Frag}{B:List Addr}{H:Hp}(hB:∀b∈B,∀xs,¬Rd H b (.tup xs)):∀{ds:List D} {vs:List V},mC ds=true→aF K [] H ds vs→aF K B H ds vs
 | [],_,_,r=>by unfold aF at r;subst r;exact aF.nil
 | d ::ds,vs,h,r=>by
   unfold mC at h
   obtain⟨h1,h2⟩:=Bool.and_eq_true_iff.mp h
   obtain⟨x,xs,rfl,r1,r2⟩:=r.cn
   exact aF.cons (Rep.uQ hB h1 r1) (aF.uQ hB h2 r2)
end
theorem SW.nt{K:PySem.W.Frag}{cl:Nat→Addr}{ρ:P3}{H:Hp}{S:aN}(w:SW K cl ρ H S):∀b∈ρ.b,∀xs,¬Rd H b (.tup xs):=fun b hb xs h=>by
 have key:∀o,H b=some o→(∀xs,o≠ .tup xs)→(∀ob xs,o≠ .iF ob (.tup xs))→False:=fun o e h1 h2=>by
  rcases h with z | ⟨ob,z⟩
  ·rw[e] at z;cases z;exact h1 _ rfl
  ·rw[e] at z;cases z;exact h2 _ _ rfl
 rcases P3.d6.mp hb with⟨z,n⟩ | z
 ·obtain⟨k,hk⟩:=List.getElem?_of_mem z
  have hl:=(List.getElem?_eq_some_iff.mp hk).1
  have hS:S[k]? =some (S[k]'(by rw[←w.len];exact hl)):=List.getElem?_eq_getElem (by rw[←w.len];exact hl)
  have r:=w.ob k b _ hk hS
  generalize S[k]'(by rw[←w.len];exact hl)=o at r hS
  cases o with
  | lst ds=>obtain⟨ys,e,_⟩:=r;exact key _ e (fun _ q=>by cases q) (fun _ _ q=>by cases q)
  | dct kvs=>obtain⟨ys,e,_⟩:=r;exact key _ e (fun _ q=>by cases q) (fun _ _ q=>by cases q)
  | ins c fs=>obtain⟨dx,ys,e,_⟩:=r;exact key _ e (fun _ q=>by cases q) (fun _ _ q=>by cases q)
  | iF=>exact n (w.fi k b hk hS)
 ·obtain⟨⟨ys,e⟩,_⟩:=w.zb b z
  exact key _ e (fun _ q=>by cases q) (fun _ _ q=>by cases q)
noncomputable abbrev DE:=List (Option V3)
structure fk (K:PySem.W.Frag) (cl:Nat→Addr) (ρ:P3) (H:Hp) (S:aN) (σ:L2.St) (δ:DE):Prop where
 len:δ.length=σ.length
 sw:SW K cl ρ H S
 val:∀(i:Nat) (d:V3),δ[i]? =some (some d)→∃v,σ[i]? =some (some v)∧br K ρ H d v
theorem fk.to{K:PySem.W.Frag}{cl:Nat→Addr}{ρ ρ':P3}{H H':Hp}{S S':aN}{σ:L2.St}{δ:DE}(E:fk K cl ρ H S σ δ)(p:Pre ρ H ρ' H')(w:SW K cl ρ' H' S'):fk K cl ρ' H' S' σ δ:=
 ⟨E.len,w,fun i d e=>let⟨v,h1,h2⟩:=E.val i d e;⟨v,h1,h2.pre p⟩⟩
theorem fk.set{K:PySem.W.Frag}{cl:Nat→Addr}{ρ:P3}{H:Hp}{S:aN}{σ:L2.St}{δ:DE}(E:fk K cl ρ H S σ δ){i:Nat}{d:V3}{v:V}(hi:i < σ.length)(r:br K ρ H d v):fk K cl ρ H S (σ.set i (some v)) (δ.set i (some d)):=
 ⟨by rw[List.length_set,List.length_set];exact E.len,E.sw,fun j d' e=>by
   by_cases h:i=j
   ·subst h
    rw[List.getElem?_set_self (by rw[E.len];exact hi)] at e
    cases e
    exact⟨v,List.getElem?_set_self hi,r⟩
   ·rw[List.getElem?_set_ne h] at e ⊢
    exact E.val j d' e⟩
noncomputable def down(δ:DE):av:=δ.map fun x=>match x with | some (.d d)=> .val d | _=> .un
theorem fk.down{K:PySem.W.Frag}{cl:Nat→Addr}{ρ:P3}{H:Hp}{S:aN}{σ:L2.St}{δ:DE}(E:fk K cl ρ H S σ δ):dX K [] ρ.b H σ (down δ) where
 len:=by unfold L3.down;rw [List.length_map];exact E.len
 bs:=E.sw.bs
 zb:=fun a ha=>by cases ha
 val:=fun i d e=>by
  unfold L3.down at e
  rw[List.getElem?_map] at e
  cases q:δ[i]? with
  | none=>rw [q] at e;cases e
  | some x=>
    rw[q] at e
    match x,e,q with
    | some (.d y),e,q=>
      cases e
      obtain⟨v,h1,h2⟩:=E.val i _ q
      unfold br at h2
      exact⟨v,h1,h2⟩
    | some (.loc k),e,q=>cases e
    | some (.lst k),e,q=>cases e
    | some (.tup k),e,q=>cases e
    | none,e,q=>cases e
 bld:=fun i ds e=>by
  unfold L3.down at e
  rw[List.getElem?_map] at e
  cases q:δ[i]? with
  | none=>rw [q] at e;cases e
  | some x=>
    rw[q] at e
    match x,e with
    | some (.d y),e=>cases e
    | some (.loc k),e=>cases e
    | some (.lst k),e=>cases e
    | some (.tup k),e=>cases e
    | none,e=>cases e
 dis:=fun i j a ds es e=>by
  unfold L3.down at e
  rw[List.getElem?_map] at e
  cases q:δ[i]? with
  | none=>rw [q] at e;cases e
  | some x=>
    rw[q] at e
    match x,e with
    | some (.d y),e=>cases e
    | some (.loc k),e=>cases e
    | some (.lst k),e=>cases e
    | some (.tup k),e=>cases e
    | none,e=>cases e
mutual
noncomputable def res(S:aN):V3→Option D
 | .d x=>some x
 | .loc k=>(match S[k]? with | some (.lst ds)=>some (.lst ds) | _=>none)
 | .lst vs=>(kJ S vs).map D.lst
 | .tup vs=>(kJ S vs).map D.tup
noncomputable def kJ(S:aN):List V3→Option (List D)
 | []=>some []
 | v ::vs=>(res S v).bind fun d=>(kJ S vs).map (d ::·)
end
noncomputable def bX(S:aN)(δ:DE):av:=δ.map fun x=>match x with | some v=>(match res S v with | some d=> .val d | none=> .un) | none=> .un
theorem nv{α β:Type}{o:Option α}{f:α→β}{b:β}(h:o.map f=some b):∃a,o=some a∧f a=b:=by
 cases o with
 | none=>cases h
 | some a=>cases h;exact⟨a,rfl,rfl⟩
theorem vA{α β:Type}{o:Option α}{f:α→Option β}{b:β}(h:o.bind f=some b):∃a,o=some a∧f a=some b:=by
 cases o with
 | none=>cases h
 | some a=>exact⟨a,rfl,h⟩
mutual
noncomputable def eO(n:Nat):V3→Bool
 | .d _=>true
 | .loc k=>decide (n≤k)
 | .lst vs=>lx n vs
 | .tup vs=>lx n vs
noncomputable def lx(n:Nat):List V3→Bool
 | []=>true
 | v ::vs=>eO n v && lx n vs
end
mutual
theorem br.resB{K:PySem.W.Frag}{cl:Nat→Addr}{ρ:P3}{H:Hp}{S:aN}{B':List Addr}{n:Nat}(w:SW K cl ρ H S)(p:dM ρ.b H B' H)(hn:∀(k:Nat) (a:Addr),n≤k→ρ.r[k]? =some a→a ∉ B'):∀{v:V3} {d:D} {x:V},eO n v=true→res S v=some d→br K ρ H v x→Rep K B' H d x
 | .d y,d,x,_,h,r=>by unfold L3.res at h;cases h;unfold br at r;exact r.bp p
 | .loc k,d,x,g,h,r=>by
   unfold L3.res at h
   unfold br at r
   unfold eO at g
   obtain⟨a,h1,rfl⟩:=r
   split at h
   ·rename_i ds e
    cases h
    obtain⟨xs,e2,q⟩:=w.ob k a _ h1 e
    unfold Rep
    exact⟨a,xs,rfl, .inl ⟨hn k a (of_decide_eq_true g) h1, .inl e2⟩,q.bp p⟩
   ·cases h
 | .lst vs,d,x,g,h,r=>by
   unfold L3.res at h
   unfold eO at g
   obtain⟨ds,e,rfl⟩:=nv h
   unfold br at r
   obtain⟨a,xs,rfl,l,r⟩:=r
   unfold Rep
   exact⟨a,xs,rfl,l.bp p,aC.resB w p hn g e r⟩
 | .tup vs,d,x,g,h,r=>by
   unfold L3.res at h
   unfold eO at g
   obtain⟨ds,e,rfl⟩:=nv h
   unfold br at r
   obtain⟨a,xs,rfl,l,r⟩:=r
   unfold Rep
   exact⟨a,xs,rfl,rf.bp p l,aC.resB w p hn g e r⟩
theorem aC.resB{K:PySem.W.Frag}{cl:Nat→Addr}{ρ:P3}{H:Hp}{S:aN}{B':List Addr}{n:Nat}(w:SW K cl ρ H S)(p:dM ρ.b H B' H)(hn:∀(k:Nat) (a:Addr),n≤k→ρ.r[k]? =some a→a ∉ B'):∀{vs:List V3} {ds:List D} {xs:List V},lx n vs=true→kJ S vs=some ds→aC K ρ H vs xs→aF K B' H ds xs
 | [],ds,xs,_,h,r=>by unfold kJ at h;cases h;unfold aC at r;subst r;exact aF.nil
 | v ::vs,ds,xs,g,h,r=>by
   unfold kJ at h
   unfold lx at g
   obtain⟨g1,g2⟩:=Bool.and_eq_true_iff.mp g
   obtain⟨d,e1,h2⟩:=vA h
   obtain⟨es,e2,rfl⟩:=nv h2
   obtain⟨y,ys,rfl,r1,r2⟩:=r.cn
   exact aF.cons (br.resB w p hn g1 e1 r1) (aC.resB w p hn g2 e2 r2)
end
mutual
theorem rQ:∀v:V3,eO 0 v=true
 | .d _=>by unfold eO;rfl
 | .loc k=>by unfold eO;exact decide_eq_true (Nat.zero_le _)
 | .lst vs=>by unfold eO;exact lL vs
 | .tup vs=>by unfold eO;exact lL vs
theorem lL:∀vs:List V3,lx 0 vs=true
 | []=>by unfold lx;rfl
 | v ::vs=>by unfold lx;rw [rQ v,lL vs];rfl
end
theorem br.res{K:PySem.W.Frag}{cl:Nat→Addr}{ρ:P3}{H:Hp}{S:aN}(w:SW K cl ρ H S){v:V3}{d:D}{x:V}(h:res S v=some d)(r:br K ρ H v x):Rep K [] H d x:=
 r.resB w (fun b o e _=>⟨e,by simp⟩) (n:=0) (fun _ _ _ _=>by simp) (rQ v) h
theorem nq{S:aN}{δ:DE}{i:Nat}{y:Sl}(e:(bX S δ)[i]? =some y):(∃v d,δ[i]? =some (some v)∧res S v=some d∧y= .val d)∨y= .un:=by
 unfold bX at e
 rw[List.getElem?_map] at e
 cases q:δ[i]? with
 | none=>rw [q] at e;cases e
 | some x=>
   rw[q] at e
   cases x with
   | none=>cases e;exact .inr rfl
   | some v=>
     cases z:res S v with
     | none=>
       have e:some (match res S v with | some d=>Sl.val d | none=> .un)=some y:=e
       rw[z] at e;cases e;exact .inr rfl
     | some d=>
       have e:some (match res S v with | some d=>Sl.val d | none=> .un)=some y:=e
       rw[z] at e;cases e;exact .inl ⟨v,d,rfl,z,rfl⟩
theorem fk.bX{K:PySem.W.Frag}{cl:Nat→Addr}{ρ:P3}{H:Hp}{S:aN}{σ:L2.St}{δ:DE}(E:fk K cl ρ H S σ δ):dX K [] [] H σ (bX S δ) where
 len:=by unfold L3.bX;rw [List.length_map];exact E.len
 bs:=fun a ha=>by cases ha
 zb:=fun a ha=>by cases ha
 val:=fun i d e=>by
  rcases nq e with⟨v,d',h1,h2,h3⟩ | h
  ·cases h3
   obtain⟨x,q1,q2⟩:=E.val i v h1
   exact⟨x,q1,q2.res E.sw h2⟩
  ·cases h
 bld:=fun i ds e=>by
  rcases nq e with⟨v,d',h1,h2,h3⟩ | h
  ·cases h3
  ·cases h
 dis:=fun i j a ds es e=>by
  rcases nq e with⟨v,d',h1,h2,h3⟩ | h
  ·cases h3
  ·cases h
noncomputable abbrev FX:=DE→aN→R3 V3
noncomputable abbrev FB:=DE→aN→R3 Bool
noncomputable abbrev FA:=DE→aN→R3 (List V3)
noncomputable def tX(K:PySem.W.Frag)(cl:Nat→Addr)(f:FX):TE:=fun σ H Q=>∃ρ S δ v S',fk K cl ρ H S σ δ∧f δ S= .ok v S'∧∀u ρ' H',Pre ρ H ρ' H'→SW K cl ρ' H' S'→br K ρ' H' v u→Q u H'
noncomputable def Gk(K:PySem.W.Frag)(cl:Nat→Addr)(f:FB):TT:=fun σ H Q=>∃ρ S δ b S',fk K cl ρ H S σ δ∧f δ S= .ok b S'∧∀ρ' H',Pre ρ H ρ' H'→SW K cl ρ' H' S'→Q b H'
noncomputable def LL(K:PySem.W.Frag)(cl:Nat→Addr)(f:FA):TA:=fun σ H Q=>∃ρ S δ vs S',fk K cl ρ H S σ δ∧f δ S= .ok vs S'∧∀us ρ' H',Pre ρ H ρ' H'→SW K cl ρ' H' S'→aC K ρ' H' vs us→Q us H'
structure PX (X:Cx) (cl:Nat→Addr) (e:Expr) (f:FX):Prop where
 go:PE X e (tX X.K cl f)
structure DK (X:Cx) (cl:Nat→Addr) (e:Expr) (f:FB):Prop where
 go:PT X e (Gk X.K cl f)
structure Dc (X:Cx) (cl:Nat→Addr) (es:List Expr) (f:FA):Prop where
 go:PA X es (LL X.K cl f)
section
variable {X:Cx} {cl:Nat→Addr}
noncomputable def xP(f:FD):FX:=fun δ S=>(R3.of (f (down δ)) S).bind fun d S=> .ok (.d d) S
theorem au{e:Expr}{f:FD}(h:QD X e f):PX X cl e (xP f):=⟨h.1.imp fun σ H Q ⟨ρ,S,δ,v,S',E,hf,q⟩=>by
 obtain⟨d,S1,h1,h2⟩:=R3.ak hf
 obtain⟨h3,e3⟩:=R3.of_ok h1
 cases h2
 subst e3
 exact⟨[],ρ.b,down δ,d,E.down,h3,fun v H' s r=>q v ρ H' (Pre.same s) (E.sw.same s) (by unfold br;exact r)⟩⟩
noncomputable def xT(f:FD):FX:=fun δ S=>(R3.of (f (bX S δ)) S).bind fun d S=>R3.bC (ka d) (.ok (.d d) S)
theorem d_{e:Expr}{f:FD}(h:QD X e f):PX X cl e (xT f):=⟨h.1.imp fun σ H Q ⟨ρ,S,δ,v,S',E,hf,q⟩=>by
 obtain⟨d,S1,h1,h2⟩:=R3.ak hf
 obtain⟨h4,e3⟩:=R3.of_ok h1
 obtain⟨ha,h3⟩:=R3.bj h2
 cases h3
 subst e3
 exact⟨[],[],bX _ δ,d,E.bX,h4,fun v H' s r=>q v ρ H' (Pre.same s) (E.sw.same s) (by unfold br;exact Rep.uQ (E.sw.same s).nt ha r)⟩⟩
noncomputable def bP(f:av→R Bool):FB:=fun δ S=>R3.of (f (down δ)) S
theorem m7{e:Expr}{f:av→R Bool}(h:QB X e f):DK X cl e (bP f):=⟨h.1.imp fun σ H Q ⟨ρ,S,δ,v,S',E,hf,q⟩=>by
 obtain⟨h1,e3⟩:=R3.of_ok hf
 subst e3
 exact⟨[],ρ.b,down δ,v,E.down,h1,fun H' s=>q ρ H' (Pre.same s) (E.sw.same s)⟩⟩
noncomputable def bT(f:av→R Bool):FB:=fun δ S=>R3.of (f (bX S δ)) S
theorem uV{e:Expr}{f:av→R Bool}(h:QB X e f):DK X cl e (bT f):=⟨h.1.imp fun σ H Q ⟨ρ,S,δ,v,S',E,hf,q⟩=>by
 obtain⟨h1,e3⟩:=R3.of_ok hf
 subst e3
 exact⟨[],[],bX _ δ,v,E.bX,h1,fun H' s=>q ρ H' (Pre.same s) (E.sw.same s)⟩⟩
noncomputable def cF(i:Nat):FX:=fun δ S=>match δ[i]? with | some (some v)=> .ok v S | _=> .no
theorem bt(i:Nat){x:Str}{pos:Pos}(hN:X.N[i]? =some x:=by rfl)(hv:D0 X.env.scope x:=by first | exact Or.inl rfl | exact Or.inr (Or.inl rfl) | exact Or.inr (Or.inr rfl))(hd:(x==("__debug__":Str))=false:=by decide)
 (hcd:(x==("__classdict__":Str))=false:=by decide):PX X cl (.Name x pos) (cF i):=⟨(sg hN hv hd hcd).imp fun σ H Q ⟨ρ,S,δ,v,S',E,hf,q⟩=>by
 unfold cF at hf
 split at hf
 ·rename_i d' e
  cases hf
  obtain⟨u,h1,h2⟩:=E.val i _ e
  exact⟨u,h1,q u ρ H (Pre.refl ρ H) E.sw h2⟩
 ·cases hf⟩
noncomputable def lH(f:av→R (List D)):FX:=fun δ S=>(R3.of (f (down δ)) S).bind fun ds S=> .ok (.loc S.length) (S++[.lst ds])
theorem gy{e:Expr}{f:av→R (List D)}(h:QN X e f):PX X cl e (lH f):=⟨h.1.imp fun σ H Q ⟨ρ,S,δ,v,S',E,hf,q⟩=>by
 obtain⟨ds,S1,h1,h2⟩:=R3.ak hf
 obtain⟨h3,e3⟩:=R3.of_ok h1
 cases h2
 subst e3
 refine⟨[],ρ.b,down δ,ds,E.down,h3,fun a xs H' s n e r=>?_⟩
 have r':aF X.K (ρ.push a).b H' ds xs:=r.bp fun b o e nb=>⟨e,fun hb=>nb (by
  rcases P3.mem_push hb with z | z
  ·exact List.mem_cons_of_mem _ z
  ·subst z;exact List.mem_cons_self)⟩
 obtain⟨w,p⟩:=E.sw.new (o:= .lst ds) s n ⟨xs,e,r'⟩
 exact q _ _ H' p w (by unfold br;exact⟨a,by show(ρ.r++[a])[_]? =_;rw [←E.sw.len,List.getElem?_append_right (by omega),Nat.sub_self];rfl,rfl⟩)⟩
end
end L3
end
section
set_option maxRecDepth 100000
set_option maxHeartbeats 4000000
namespace L3
open PySem PySem.Spec PyProof.Rows L2
section
variable {X:Cx} {cl:Nat→Addr}
noncomputable def cR:FA:=fun _ S=> .ok [] S
noncomputable def aA(f:FX)(g:FA):FA:=fun δ S=>(f δ S).bind fun v S1=>(g δ S1).bind fun vs S2=> .ok (v ::vs) S2
theorem aT:Dc X cl [] cR:=⟨jf.imp fun σ H Q ⟨ρ,S,δ,v,S',E,hf,q⟩=>by
 cases hf
 exact q [] ρ H (Pre.refl ρ H) E.sw aC.nil⟩
theorem ao{e:Expr}{es:List Expr}{f:FX}{g:FA}(h:PX X cl e f)(t:Dc X cl es g)(hs:starEach (e ::es) X.env=(false,eval e X.env) ::starEach es X.env:=by rfl):Dc X cl (e ::es) (aA f g):=
 ⟨(gJ h.1 t.1 hs).imp fun σ H Q ⟨ρ,S,δ,v,S',E,hf,q⟩=>by
   obtain⟨v1,S1,h1,h2⟩:=R3.ak hf
   obtain⟨vs,S2,h3,h4⟩:=R3.ak h2
   cases h4
   exact⟨ρ,S,δ,v1,S1,E,h1,fun u ρ1 H1 p1 w1 r1=>⟨ρ1,S1,δ,vs,_,E.to p1 w1,h3,fun us ρ2 H2 p2 w2 r2=>q _ ρ2 H2 (p1.trans p2) w2 (aC.cons (r1.pre p2) r2)⟩⟩⟩
noncomputable def jE:List V3→Option (List D)
 | []=>some []
 | .d x ::r=>(jE r).map (x ::·)
 | _ ::_=>none
theorem jl:∀{vs:List V3} {ds:List D},jE vs=some ds→vs=ds.map .d
 | [],ds,h=>by cases h;rfl
 | .d x ::r,ds,h=>by
   cases e:jE r with
   | none=>have h:(jE r).map (x ::·)=some ds:=h;rw [e] at h;cases h
   | some es=>
     have h:(jE r).map (x ::·)=some ds:=h
     rw[e] at h
     cases h
     rw[jl e]
     rfl
 | .loc _ ::_,_,h=>by cases h
 | .lst _ ::_,_,h=>by cases h
 | .tup _ ::_,_,h=>by cases h
theorem pO:∀ds:List D,jE (ds.map .d)=some ds
 | []=>rfl
 | d ::ds=>by show(jE (ds.map .d)).map (d ::·)=_;rw [pO ds];rfl
noncomputable def j5(vs:List V3):V3:=match jE vs with | some ds=> .d (.tup ds) | none=> .tup vs
noncomputable def iu(vs:List V3):V3:=match jE vs with | some ds=> .d (.lst ds) | none=> .lst vs
noncomputable def uL(g:FA):FX:=fun δ S=>(g δ S).bind fun vs S=>R3.bC (decide (vs.length≤sizeLine)) (.ok (j5 vs) S)
theorem pe{ρ:P3}{H:Hp}{p:Addr}{o:HO}(hp:H p=none):Pre ρ H ρ (upd H p o):=Pre.same (bo hp)
theorem yV{K:PySem.W.Frag}{ρ:P3}{H:Hp}{vs:List V3}{xs:List V}{a:Addr}(l:rf K ρ.b H a xs)(r:aC K ρ H vs xs):br K ρ H (j5 vs) (.ref a):=by
 unfold j5
 split
 ·rename_i ds e
  rw[jl e] at r
  unfold br Rep
  exact⟨a,xs,rfl,l,r.to⟩
 ·unfold br
  exact⟨a,xs,rfl,l,r⟩
theorem rD{K:PySem.W.Frag}{ρ:P3}{H:Hp}{vs:List V3}{xs:List V}{a:Addr}(l:qN K ρ.b H a xs)(r:aC K ρ H vs xs):br K ρ H (iu vs) (.ref a):=by
 unfold iu
 split
 ·rename_i ds e
  rw[jl e] at r
  unfold br Rep
  exact⟨a,xs,rfl,l,r.to⟩
 ·unfold br
  exact⟨a,xs,rfl,l,r⟩
theorem nJ{es:List Expr}{g:FA}{x1 pos}(h:Dc X cl es g):PX X cl (.Tuple es x1 pos) (uL g):=⟨(zK h.1).imp fun σ H Q ⟨ρ,S,δ,v,S',E,hf,q⟩=>by
 obtain⟨vs,S1,h1,h2⟩:=R3.ak hf
 obtain⟨hl,h3⟩:=R3.bj h2
 cases h3
 refine⟨ρ,S,δ,vs,_,E,h1,fun us ρ1 H1 p1 w1 r1=>⟨by rw[←r1.length];exact of_decide_eq_true hl,fun p hp=>q _ ρ1 _ (p1.trans (pe hp)) (w1.same (bo hp)) ?_⟩⟩
 refine yV (.inl ⟨fun ha=>?_, .inl bc⟩) (r1.pre (pe hp))
 obtain⟨o,ho⟩:=w1.bs p ha
 rw[hp] at ho;cases ho⟩
noncomputable def FH(g:FA):FX:=fun δ S=>(g δ S).bind fun vs S=>R3.bC (decide (vs.length≤sizeLine)) (.ok (iu vs) S)
theorem Fu{es:List Expr}{g:FA}{pos}(h:Dc X cl es g):PX X cl (.List es pos) (FH g):=⟨(A9 h.1).imp fun σ H Q ⟨ρ,S,δ,v,S',E,hf,q⟩=>by
 obtain⟨vs,S1,h1,h2⟩:=R3.ak hf
 obtain⟨hl,h3⟩:=R3.bj h2
 cases h3
 refine⟨ρ,S,δ,vs,_,E,h1,fun us ρ1 H1 p1 w1 r1=>⟨by rw[←r1.length];exact of_decide_eq_true hl,fun p hp=>q _ ρ1 _ (p1.trans (pe hp)) (w1.same (bo hp)) ?_⟩⟩
 refine rD (.inl ⟨fun ha=>?_, .inl bc⟩) (r1.pre (pe hp))
 obtain⟨o,ho⟩:=w1.bs p ha
 rw[hp] at ho;cases ho⟩
noncomputable def x2(g:D→D→R D)(fa fb:FX):FX:=fun δ S=>(fa δ S).bind fun a S1=>(fb δ S1).bind fun b S2=>match a,b with
 | .d x, .d y=>(R3.of (g x y) S2).bind fun d S=> .ok (.d d) S
 | _,_=> .no
theorem Gn{K:PySem.W.Frag}{g:D→D→R D}{fa fb:FX}{σ:L2.St}{H:Hp}{Q:VK}(h:tX K cl (x2 g fa fb) σ H Q) :
 GC (fun x y H Q=>∃B da db d,(∀a∈B,∃o,H a=some o)∧Rep K B H da x∧Rep K B H db y∧g da db= .ok d∧∀z H',aQ H H'→Rep K B H' d z→Q z H') (tX K cl fa) (tX K cl fb) σ H Q:=by
 obtain⟨ρ,S,δ,v,S',E,hf,q⟩:=h
 obtain⟨a,S1,h1,h2⟩:=R3.ak hf
 obtain⟨b,S2,h3,h4⟩:=R3.ak h2
 match a,b,h1,h3,h4 with
 | .d x, .d y,h1,h3,h4=>
   obtain⟨d,S3,h5,h6⟩:=R3.ak h4
   obtain⟨h7,e⟩:=R3.of_ok h5
   cases h6
   subst e
   refine⟨ρ,S,δ, .d x,S1,E,h1,fun u1 ρ1 H1 p1 w1 r1=>⟨ρ1,S1,δ, .d y,_,E.to p1 w1,h3,fun u2 ρ2 H2 p2 w2 r2=>?_⟩⟩
   have r1':=r1.pre p2
   unfold br at r1' r2
   exact⟨ρ2.b,x,y,d,w2.bs,r1',r2,h7,fun z H' s r=>q z ρ2 H' (p1.trans (p2.trans (Pre.same s))) (w2.same s) (by unfold br;exact r)⟩
 | .d x, .loc _,_,_,h4=>cases h4
 | .d x, .lst _,_,_,h4=>cases h4
 | .d x, .tup _,_,_,h4=>cases h4
 | .loc _,_,_,_,h4=>cases h4
 | .lst _,_,_,_,h4=>cases h4
 | .tup _,_,_,_,h4=>cases h4
theorem q9{op:Operator}{g:D→D→R D}{a b:Expr}{fa fb:FX}{pos:Pos}(ho:ke X (binaryOp op) g)(ha:PX X cl a fa)(hb:PX X cl b fb):PX X cl (.BinOp a op b pos) (x2 g fa fb):=
 ⟨(D_ ho.r ha.1 hb.1).imp fun σ H Q h=>Gn h⟩
theorem wH{op:CmpOp}{g:D→D→R D}{a b:Expr}{fa fb:FX}{pos:Pos}(ho:ke X (compareOp op) g)(ha:PX X cl a fa)(hb:PX X cl b fb)(hm:behindInMarks op b=false):PX X cl (.Compare a [op] [b] pos) (x2 g fa fb):=
 ⟨(x4 ho.r ha.1 hb.1 hm).imp fun σ H Q h=>Gn h⟩
noncomputable def GU(g:D→D→R D)(fa fb:FX):FB:=fun δ S=>(x2 g fa fb δ S).bind fun v S=>match v with | .d (.bl b)=> .ok b S | _=> .no
theorem sx{op:CmpOp}{g:D→D→R D}{a b:Expr}{fa fb:FX}{pos:Pos}(ho:ke X (compareOp op) g)(ha:PX X cl a fa)(hb:PX X cl b fb)(hm:behindInMarks op b=false):DK X cl (.Compare a [op] [b] pos) (GU g fa fb):=
 ⟨(xZ ho.r ha.1 hb.1 hm).imp fun σ H Q ⟨ρ,S,δ,b,S',E,hf,q⟩=>by
   obtain⟨v,S1,h1,h2⟩:=R3.ak hf
   have hv:v= .d (.bl b)∧S1=S':=by
    match v,h2 with
    | .d (.bl k),h2=>cases h2;exact⟨rfl,rfl⟩
    | .d .dk,h2=>cases h2
    | .d (.int _),h2=>cases h2
    | .d (.str _),h2=>cases h2
    | .d (.lst _),h2=>cases h2
    | .d (.tup _),h2=>cases h2
    | .d (.dct _ _),h2=>cases h2
    | .loc _,h2=>cases h2
    | .lst _,h2=>cases h2
    | .tup _,h2=>cases h2
   obtain⟨rfl,rfl⟩:=hv
   exact Gn (g:=g) (Q:=fun x H'=>∃k,x= .bl k∧Q k H') ⟨ρ,S,δ,_,_,E,h1,fun u ρ' H' p w r=>⟨b,by unfold br Rep at r;exact r,q ρ' H' p w⟩⟩⟩
inductive Ou where
 | nx (δ:DE) | rt (v:V3)
noncomputable abbrev FZ:=DE→aN→R3 Ou
noncomputable def Cb(K:PySem.W.Frag)(cl:Nat→Addr)(ρ:P3)(H:Hp)(D:Ends)(S':aN):Ou→Prop
 | .nx δ'=>∀σ' ρ' H',Pre ρ H ρ' H'→fk K cl ρ' H' S' σ' δ'→D.nx σ' H'
 | .rt v=>∀u ρ' H',Pre ρ H ρ' H'→SW K cl ρ' H' S'→br K ρ' H' v u→D.rt u H'
theorem Cb.pre{K:PySem.W.Frag}{ρ ρ1:P3}{H H1:Hp}{D:Ends}{S':aN}{o:Ou}(q:Cb K cl ρ H D S' o)(p:Pre ρ H ρ1 H1):Cb K cl ρ1 H1 D S' o:=by
 cases o with
 | nx δ'=>exact fun σ' ρ' H' p' E'=>q σ' ρ' H' (p.trans p') E'
 | rt d=>exact fun v ρ' H' p' w r=>q v ρ' H' (p.trans p') w r
noncomputable def sX(K:PySem.W.Frag)(cl:Nat→Addr)(F:FZ):TS:=fun D σ H=>∃ρ S δ o S',fk K cl ρ H S σ δ∧F δ S= .ok o S'∧Cb K cl ρ H D S' o
structure PZ (X:Cx) (cl:Nat→Addr) (st:Stmt) (F:FZ):Prop where
 go:PS X st (sX X.K cl F)
structure zo (X:Cx) (cl:Nat→Addr) (st:List Stmt) (F:FZ):Prop where
 go:sE X st (sX X.K cl F)
noncomputable def ve:FZ:=fun δ S=> .ok (.nx δ) S
noncomputable def bN(F G:FZ):FZ:=fun δ S=>(F δ S).bind fun o S1=>match o with | .nx δ'=>G δ' S1 | .rt d=> .ok (.rt d) S1
theorem mm:zo X cl [] ve:=⟨xV.imp fun D σ H ⟨ρ,S,δ,o,S',E,hf,q⟩=>by
 cases hf
 exact q σ ρ H (Pre.refl ρ H) E⟩
theorem aw{st:Stmt}{rest:List Stmt}{F G:FZ}(h1:PZ X cl st F)(h2:zo X cl rest G):zo X cl (st ::rest) (bN F G):=⟨(va h1.1 h2.1).imp fun D σ H ⟨ρ,S,δ,o,S',E,hf,q⟩=>by
 obtain⟨o1,S1,h1,h2⟩:=R3.ak hf
 refine⟨ρ,S,δ,o1,S1,E,h1,?_⟩
 cases o1 with
 | nx δ1=>
   intro σ1 ρ1 H1 p1 E1
   exact⟨ρ1,S1,δ1,o,S',E1,h2,q.pre p1⟩
 | rt d=>
   cases h2
   exact q⟩
theorem aU{st:Stmt}{F:FZ}(h1:PZ X cl st F):zo X cl [st] F:=⟨ya h1.1⟩
noncomputable def dh(i:Nat)(f:FX):FZ:=fun δ S=>(f δ S).bind fun v S=>R3.bC (decide (i < δ.length)) (.ok (.nx (δ.set i (some v))) S)
theorem bB{i:Nat}{x:Str}{e:Expr}{f:FX}{pos pos':Pos}(hN:X.N.Nodup)(hi:X.N[i]? =some x)(hx:Loc X.env.scope x)(he:PX X cl e f)(hs:swapsWith e (some (.Name x pos')) pos.line X.env=pure false:=by rfl)(hf:X.fn x=true∨X.env.scope.names.lookup x=some .local:=by first | exact .inl rfl | exact .inr rfl | assumption) :
 PZ X cl (.Assign [.Name x pos'] e pos) (dh i f):=⟨(wo hN hi hx he.1 hs hf).imp fun D σ H ⟨ρ,S,δ,o,S',E,hf,q⟩=>by
 obtain⟨v,S1,h1,h2⟩:=R3.ak hf
 obtain⟨hi,h3⟩:=R3.bj h2
 cases h3
 refine⟨ρ,S,δ,v,_,E,h1,fun u ρ1 H1 p1 w1 r1=>?_⟩
 exact q _ ρ1 H1 p1 ((E.to p1 w1).set (by rw[←E.len];exact of_decide_eq_true hi) r1)⟩
noncomputable def iR(f:FX):FZ:=fun δ S=>(f δ S).bind fun v S=> .ok (.rt v) S
theorem dZ{e:Expr}{f:FX}{pos:Pos}(he:PX X cl e f):PZ X cl (.Return (some e) pos) (iR f):=⟨(zR he.1).imp fun D σ H ⟨ρ,S,δ,o,S',E,hf,q⟩=>by
 obtain⟨v,S1,h1,h2⟩:=R3.ak hf
 cases h2
 exact⟨ρ,S,δ,v,_,E,h1,fun u ρ1 H1 p1 w1 r1=>q u ρ1 H1 p1 w1 r1⟩⟩
noncomputable def Dw(c:FB)(F G:FZ):FZ:=fun δ S=>(c δ S).bind fun b S=>if b then F δ S else G δ S
theorem qY{c:Expr}{a b:List Stmt}{fc:FB}{F G:FZ}{pos:Pos}(hc:DK X cl c fc)(ha:zo X cl a F)(hb:zo X cl b G):PZ X cl (.If c a b pos) (Dw fc F G):=⟨(Ed hc.1 ha.1 hb.1).imp fun D σ H ⟨ρ,S,δ,o,S',E,hf,q⟩=>by
 obtain⟨k,S1,h1,h2⟩:=R3.ak hf
 refine⟨ρ,S,δ,k,S1,E,h1,fun ρ1 H1 p1 w1=>?_⟩
 cases k with
 | true=>rw [if_pos rfl] at h2;exact BL ⟨ρ1,S1,δ,o,S',E.to p1 w1,h2,q.pre p1⟩
 | false=>rw [if_neg (by decide)] at h2;exact zG ⟨ρ1,S1,δ,o,S',E.to p1 w1,h2,q.pre p1⟩⟩
noncomputable def Ke(f:FX):FZ:=fun δ S=>(f δ S).bind fun _ S=> .ok (.nx δ) S
noncomputable def kY(c:FB)(body:FZ):Nat→FZ
 | 0,_,_=> .no
 | n+1,δ,S=>(c δ S).bind fun b S=>if b then(body δ S).bind fun o S=>match o with | .nx δ2=>kY c body n δ2 S | .rt r=> .ok (.rt r) S else .ok (.nx δ) S
noncomputable def wJ(n:Nat)(c:FB)(body:FZ):FZ:=fun δ S=>kY c body n δ S
theorem zT(n:Nat){c:Expr}{body:List Stmt}{fc:FB}{F:FZ}{pos:Pos}(hp:PassesOwn (model X.prog X.w) X.A X.env X.xe)(hc:DK X cl c fc)(hb:zo X cl body F):PZ X cl (.While c body [] pos) (wJ n fc F):=
 ⟨(AK hp hc.1 hb.1).imp fun D σ H ⟨ρ,S,δ,o,S',E,hf,q⟩=>by
   refine⟨fun m σ' H'=>∃ρ1 S1 δ1,Pre ρ H ρ1 H'∧fk X.K cl ρ1 H' S1 σ' δ1∧kY fc F m δ1 S1= .ok o S',⟨n,ρ,S,δ,Pre.refl ρ H,E,hf⟩,?_⟩
   rintro m σ' H' ⟨ρ1,S1,δ1,p1,E1,hw⟩
   cases m with
   | zero=>cases hw
   | succ m=>
     obtain⟨b,S2,h1,h2⟩:=R3.ak hw
     refine⟨ρ1,S1,δ1,b,S2,E1,h1,fun ρ2 H2 p2 w2=>?_⟩
     cases b with
     | false=>
       rw[if_neg (by decide)] at h2
       cases h2
       exact zG (q σ' ρ2 H2 (p1.trans p2) (E1.to p2 w2))
     | true=>
       rw[if_pos rfl] at h2
       obtain⟨o1,S3,h3,h4⟩:=R3.ak h2
       refine BL ⟨fun σ4 H4=>∃ρ4 S4 δ4,Pre ρ H ρ4 H4∧fk X.K cl ρ4 H4 S4 σ4 δ4∧kY fc F m δ4 S4= .ok o S',fun σ4 H4 n=>⟨m,Nat.lt_succ_self _,n⟩,ρ2,S2,δ1,o1,S3,E1.to p2 w2,h3,?_⟩
       cases o1 with
       | nx δ2=>exact fun σ3 ρ3 H3 p3 E3=>⟨ρ3,S3,δ2,(p1.trans p2).trans p3,E3,h4⟩
       | rt d=>
         cases h4
         exact fun v ρ3 H3 p3 w r=>q v ρ3 H3 ((p1.trans p2).trans p3) w r⟩
end
end L3
end
section
set_option maxRecDepth 100000
set_option maxHeartbeats 4000000
namespace L3
open PySem PySem.Spec PyProof.Rows L2
theorem aC.get{K:PySem.W.Frag}{ρ:P3}{H:Hp}:∀{ds:List V3} {xs:List V} {i:Nat} {d:V3},aC K ρ H ds xs→ds[i]? =some d→∃x,xs[i]? =some x∧br K ρ H d x
 | [],_,_,_,_,e=>by simp at e
 | d ::ds,xs,0,d',h,e=>by
   obtain⟨x,r,rfl,h1,h2⟩:=h.cn
   simp at e;subst e
   exact⟨x,rfl,h1⟩
 | d ::ds,xs,i+1,d',h,e=>by
   obtain⟨x,r,rfl,h1,h2⟩:=h.cn
   obtain⟨y,e1,e2⟩:=aC.get (i:=i) h2 (by simpa using e)
   exact⟨y,by simpa using e1,e2⟩
noncomputable def GD(K:PySem.W.Frag)(ρ:P3)(H:Hp)(J:It)(vs:List V3):Prop:=∀ρ' H',PW ρ H ρ' H'→(∀a∈ρ'.b,∃o,H' a=some o)→(∀(i:Nat) (d:V3),vs[i]? =some d→J.go i H'∧∀x H'',J.yld i H' x H''→aQ H' H''∧br K ρ' H'' d x)∧J.stop vs.length H'
theorem GD.of{K:PySem.W.Frag}{ρ:P3}{H:Hp}{J:It}{ds:List D}(h:Bu K ρ.b H J ds):GD K ρ H J (ds.map .d):=fun ρ' H' p bs=>by
 obtain⟨h1,h2⟩:=h ρ'.b H' p.bp
 refine⟨fun i v hv=>?_,by rw[List.length_map];exact h2⟩
 rw[List.getElem?_map] at hv
 cases e:ds[i]? with
 | none=>rw [e] at hv;cases hv
 | some d=>
   rw[e] at hv
   cases hv
   obtain⟨g1,g2⟩:=h1 i d e
   exact⟨g1,fun x H'' y=>let⟨s,r⟩:=g2 x H'' y bs;⟨s,by unfold br;exact r⟩⟩
noncomputable def J8(K:PySem.W.Frag)(cl:Nat→Addr)(f:FA):TI:=fun σ H R=>∃ρ S δ vs S',fk K cl ρ H S σ δ∧f δ S= .ok vs S'∧∀J ρ1 H1,Pre ρ H ρ1 H1→SW K cl ρ1 H1 S'→GD K ρ1 H1 J vs→R J H1
structure EV (X:Cx) (cl:Nat→Addr) (tg e:Expr) (f:FA):Prop where
 go:PI X tg e (J8 X.K cl f)
section
variable {X:Cx} {cl:Nat→Addr}
noncomputable def iP(f:av→R (List D)):FA:=fun δ S=>(R3.of (f (down δ)) S).bind fun ds S=> .ok (ds.map .d) S
theorem cQ{tg e:Expr}{f:av→R (List D)}(h:w_ X tg e f):EV X cl tg e (iP f):=⟨h.1.imp fun σ H Q ⟨ρ,S,δ,vs,S',E,hf,q⟩=>by
 obtain⟨ds,S1,h1,h2⟩:=R3.ak hf
 obtain⟨h3,e3⟩:=R3.of_ok h1
 cases h2
 subst e3
 exact⟨[],ρ.b,down δ,ds,E.down,h3,fun J H1 s r=>q J ρ H1 (Pre.same s) (E.sw.same s) (GD.of r)⟩⟩
noncomputable def oy(f:FX):FA:=fun δ S=>(f δ S).bind fun v S=>match v with | .d (.int j)=>R3.bC (decide (-(2 ^ 62)≤j∧j < 2 ^ 62)) (.ok ((cc 0 j.toNat).map .d) S) | _=> .no
theorem jY{tg a:Expr}{f:FX}{p pos:Pos}(h:PX X cl a f)(hg:Gl X "range")(hm:X.mg "range"=none)(hs:starEach [a] X.env=[(false,eval a X.env)]:=by rfl):EV X cl tg (.Call (.Name "range" p) [a] [] pos) (oy f):=
 ⟨(rB hg hm (gJ h.1 jf hs) hs).imp fun σ H RR ⟨ρ,S,δ,vs,S',E,hf,q⟩=>by
   obtain⟨v,S1,h1,h2⟩:=R3.ak hf
   match v,h1,h2 with
   | .d (.int j),h1,h2=>
     obtain⟨hb,h3⟩:=R3.bj h2
     cases h3
     have hb:=of_decide_eq_true hb
     refine⟨ρ,S,δ, .d (.int j),_,E,h1,fun u ρ1 H1 p1 w1 r1=>⟨j,?_,hb.1,hb.2,q _ ρ1 H1 p1 w1 (GD.of (zB 0 _))⟩⟩
     unfold br Rep at r1
     rw[r1]
   | .d .dk,_,h2=>cases h2
   | .d (.bl _),_,h2=>cases h2
   | .d (.str _),_,h2=>cases h2
   | .d (.lst _),_,h2=>cases h2
   | .d (.tup _),_,h2=>cases h2
   | .d (.dct _ _),_,h2=>cases h2
   | .loc _,_,h2=>cases h2
   | .lst _,_,h2=>cases h2
   | .tup _,_,h2=>cases h2⟩
noncomputable def CW(f:FX):FA:=fun δ S=>(f δ S).bind fun v S=>match v with | .d (.lst ds)=> .ok (ds.map .d) S | .lst vs=> .ok vs S | _=> .no
theorem wZ{tg e:Expr}{f:FX}(h:PX X cl e f):EV X cl tg e (CW f):=⟨by
 intro pins s σ H RR I ⟨ρ,S,δ,vs,S',E,hf,q⟩
 obtain⟨v,S1,h1,h2⟩:=R3.ak hf
 refine d5 (h.1 pins s σ H (fun u H1=>∃ρ1,Pre ρ H ρ1 H1∧SW X.K cl ρ1 H1 S1∧br X.K ρ1 H1 v u) I ⟨ρ,S,δ,v,S1,E,h1,fun u ρ1 H1 p1 w1 r1=>⟨ρ1,p1,w1,r1⟩⟩) fun u s1 ⟨x,H1,I1,r1,ρ1,p1,w1,rr⟩=>?_
 have key:S1=S'∧∃a xs,x= .ref a∧qN X.K ρ1.b H1 a xs∧aC X.K ρ1 H1 vs xs:=by
  match v,h2,rr with
  | .d (.lst ds),h2,rr=>
    cases h2
    unfold br Rep at rr
    obtain⟨a,xs,e,l,r⟩:=rr
    exact⟨rfl,a,xs,e,l,aC.of r⟩
  | .lst ws,h2,rr=>
    cases h2
    unfold br at rr
    exact⟨rfl,rr⟩
  | .d .dk,h2,_=>cases h2
  | .d (.bl _),h2,_=>cases h2
  | .d (.int _),h2,_=>cases h2
  | .d (.str _),h2,_=>cases h2
  | .d (.tup _),h2,_=>cases h2
  | .d (.dct _ _),h2,_=>cases h2
  | .loc _,h2,_=>cases h2
  | .tup _,h2,_=>cases h2
 obtain⟨rfl,a,xs,rfl,l,rr⟩:=key
 cases r1
 obtain⟨its,rv,p,hz⟩:=I1.list l.sq
 refine wpAny_pyIter_list p.isList ?_
 refine⟨s1.heap.objs.size,[s1.heap.objs.size],_,_,H1,rfl,I1.kept (t':=s1.toks) fun b o e=>Heap.get?_push_of_some _ e,qZ a _,⟨_,Heap.get?_push_size _ rfl,rfl,rfl⟩,fun b hb=>?_,q _ ρ1 H1 p1 w1 fun ρ' H' pr bs=>?_⟩
 ·have e:b=s1.heap.objs.size:=by simpa using hb
  subst e
  exact I1.qF (Nat.le_refl _) (I1.hok.fresh (Nat.le_refl _))
 ·have l':qN X.K ρ'.b H' a xs:=l.bp pr.bp
  have rr':=rr.pw pr
  refine⟨fun i d hd=>?_,⟨xs,l'.sq,by rw[rr.length];exact Nat.le_refl _⟩⟩
  obtain⟨x,hx,rx⟩:=rr'.get hd
  exact⟨⟨xs,x,l'.sq,hx⟩,fun y H'' ⟨e1,e2⟩=>by
   subst e1
   have:=e2 xs l'.sq
   rw[hx] at this
   cases this
   exact⟨aQ.refl _,rx⟩⟩⟩
noncomputable abbrev FG:=V3→DE→Option DE
noncomputable abbrev CT:=List V3→DE→Option DE
noncomputable def gX(K:PySem.W.Frag)(cl:Nat→Addr)(t:FG):TG:=fun v σ H Q=>∃ρ S δ x δ',fk K cl ρ H S σ δ∧br K ρ H x v∧t x δ=some δ'∧∀σ' H',aQ H H'→fk K cl ρ H' S σ' δ'→Q σ' H'
noncomputable def Lc(K:PySem.W.Frag)(cl:Nat→Addr)(t:CT):BH:=fun v σ H Q=>∃ρ S δ x δ',fk K cl ρ H S σ δ∧aC K ρ H x v∧t x δ=some δ'∧∀σ' H',aQ H H'→fk K cl ρ H' S σ' δ'→Q σ' H'
structure GG (X:Cx) (cl:Nat→Addr) (tg:Expr) (t:FG):Prop where
 go:PG X tg (gX X.K cl t)
structure C3 (X:Cx) (cl:Nat→Addr) (tg:List Expr) (t:CT):Prop where
 go:CM X tg (Lc X.K cl t)
theorem fk.same{K:PySem.W.Frag}{ρ:P3}{H H':Hp}{S:aN}{σ:L2.St}{δ:DE}(E:fk K cl ρ H S σ δ)(s:aQ H H'):fk K cl ρ H' S σ δ:=E.to (Pre.same s) (E.sw.same s)
noncomputable def jk(i:Nat):FG:=fun d δ=>if i < δ.length then some (δ.set i (some d)) else none
theorem bb{i:Nat}{x:Str}{pos:Pos}(hN:X.N.Nodup)(hi:X.N[i]? =some x)(hx:Loc X.env.scope x)(hf:X.fn x=true∨X.env.scope.names.lookup x=some .local:=by first | exact .inl rfl | exact .inr rfl | assumption):GG X cl (.Name x pos) (jk i):=
 ⟨(yg hN hi hx hf).imp fun v σ H Q ⟨ρ,S,δ,d,δ',E,r,ht,q⟩=>by
   unfold jk at ht
   split at ht
   ·rename_i hi
    cases ht
    exact q _ H (aQ.refl H) (E.set (by rw[←E.len];exact hi) r)
   ·cases ht⟩
noncomputable def vp:CT:=fun ds δ=>match ds with | []=>some δ | _=>none
noncomputable def oF(t:FG)(u:CT):CT:=fun ds δ=>match ds with | d ::r=>(t d δ).bind fun δ'=>u r δ' | []=>none
theorem iz:C3 X cl [] vp:=⟨xB.imp fun vs σ H Q ⟨ρ,S,δ,ds,δ',E,r,ht,q⟩=>by
 cases ds with
 | nil=>unfold aC at r;cases ht;exact⟨r,q σ H (aQ.refl H) E⟩
 | cons=>cases ht⟩
theorem cu{e:Expr}{es:List Expr}{t:FG}{u:CT}(h1:GG X cl e t)(h2:C3 X cl es u)(hs:(assignEach (e ::es) X.env).map (·.2)=assign e X.env ::(assignEach es X.env).map (·.2):=by rfl):C3 X cl (e ::es) (oF t u):=
 ⟨(uz h1.1 h2.1 hs).imp fun vs σ H Q ⟨ρ,S,δ,ds,δ',E,r,ht,q⟩=>by
   cases ds with
   | nil=>cases ht
   | cons d ds=>
     obtain⟨x,xs,rfl,r1,r2⟩:=r.cn
     have ht:(t d δ).bind (fun δ'=>u ds δ')=some δ':=ht
     cases e1:t d δ with
     | none=>rw [e1] at ht;cases ht
     | some δ1=>
       rw[e1] at ht
       exact⟨x,xs,rfl,ρ,S,δ,d,δ1,E,r1,e1,fun σ1 H1 s1 E1=>⟨ρ,S,δ1,ds,δ',E1,r2.pre (Pre.same s1),ht,fun σ2 H2 s2 E2=>q σ2 H2 (s1.trans s2) E2⟩⟩⟩
noncomputable def u7(n:Nat)(t:CT):FG:=fun d δ=>match d with
 | .d (.tup ds)=>if ds.length=n then t (ds.map .d) δ else none
 | .tup vs=>if vs.length=n then t vs δ else none
 | _=>none
theorem jJ{es:List Expr}{k:Nat}{t:CT}{n:Nat}{pos:Pos}(hc:X.calm=true)(h:C3 X cl es t)(hn:(assignEach es X.env).length=n:=by rfl)(hst:(assignEach es X.env).findIdx? (·.1)=none:=by rfl):GG X cl (.Tuple es k pos) (u7 n t):=
 ⟨(A4 hc h.1 hn hst).imp fun v σ H Q ⟨ρ,S,δ,d,δ',E,r,ht,q⟩=>by
   have key:∃vs a xs,v= .ref a∧rf X.K ρ.b H a xs∧aC X.K ρ H vs xs∧vs.length=n∧t vs δ=some δ':=by
    unfold u7 at ht
    split at ht
    ·rename_i ds
     split at ht
     ·rename_i hl
      unfold br Rep at r
      obtain⟨a,xs,e,l,r⟩:=r
      exact⟨ds.map .d,a,xs,e,l,aC.of r,by rw[List.length_map];exact hl,ht⟩
     ·cases ht
    ·rename_i vs
     split at ht
     ·rename_i hl
      unfold br at r
      obtain⟨a,xs,e,l,r⟩:=r
      exact⟨vs,a,xs,e,l,r,hl,ht⟩
     ·cases ht
    ·cases ht
   obtain⟨vs,a,xs,rfl,l,r,hl,ht⟩:=key
   exact⟨a,xs,rfl,l.sq,by rw[←r.length];exact hl,ρ,S,δ,vs,δ',E,r,ht,q⟩⟩
noncomputable def LI(f:FX)(t:FG):FZ:=fun δ S=>(f δ S).bind fun d S=>match t d δ with | some δ'=> .ok (.nx δ') S | none=> .no
noncomputable def kE(t:FG)(body:FZ):List V3→FZ
 | [],δ,S=> .ok (.nx δ) S
 | d ::ds,δ,S=>match t d δ with
   | none=> .no
   | some δ1=>(body δ1 S).bind fun o S=>match o with | .nx δ2=>kE t body ds δ2 S | .rt r=> .ok (.rt r) S
noncomputable def jM(it:FA)(t:FG)(body:FZ):FZ:=fun δ S=>(it δ S).bind fun vs S=>kE t body vs δ S
theorem eR{tg iter:Expr}{body:List Stmt}{it:FA}{t:FG}{F:FZ}{pos:Pos}(hp:PassesOwn (model X.prog X.w) X.A X.env X.xe)(hc:X.calm=true)(hi:EV X cl tg iter it)(hg:GG X cl tg t)(hb:zo X cl body F)
 (hs:∀x,foldedSetIterable iter X.env x=pure x:=by intro _;rfl):PZ X cl (.For tg iter body [] pos) (jM it t F):=⟨(Bd hp hc hi.1 hg.1 hb.1 hs).imp fun D σ H ⟨ρ,S,δ,o,S',E,hf,q⟩=>by
 obtain⟨ds,S0,h1,h2⟩:=R3.ak hf
 refine⟨ρ,S,δ,ds,S0,E,h1,fun J ρ1 H1 p1 w1 ir=>?_⟩
 refine⟨fun i m σ' H'=>m=ds.length - i∧i≤ds.length∧∃ρ' S1 δ',Pre ρ1 H1 ρ' H'∧fk X.K cl ρ' H' S1 σ' δ'∧kE t F (ds.drop i) δ' S1= .ok o S',⟨ds.length,rfl,Nat.zero_le _,ρ1,S0,δ,Pre.refl ρ1 H1,E.to p1 w1,by simpa using h2⟩,?_⟩
 rintro i m σ' H' ⟨rfl,hi,ρ',S1,δ',pv,E',hl⟩
 obtain⟨go,stop⟩:=ir ρ' H' pv.pw E'.sw.bs
 by_cases hlt:i < ds.length
 ·have hd:ds[i]? =some ds[i]:=List.getElem?_eq_getElem hlt
  have hdrop:ds.drop i=ds[i] ::ds.drop (i+1):=List.drop_eq_getElem_cons hlt
  rw[hdrop] at hl
  unfold kE at hl
  split at hl
  ·cases hl
  ·rename_i δ1 h3
   obtain⟨o1,S2,h5,h6⟩:=R3.ak hl
   obtain⟨g1,g2⟩:=go i _ hd
   refine .inr ⟨g1,fun σ2 H2=>∃ρ2 S2 δ2,Pre ρ1 H1 ρ2 H2∧fk X.K cl ρ2 H2 S2 σ2 δ2∧kE t F (ds.drop (i+1)) δ2 S2= .ok o S',fun σ2 H2 n=>⟨ds.length - (i+1),by omega,rfl,hlt,n⟩,fun x H'' y=>?_⟩
   obtain⟨ss,rr⟩:=g2 x H'' y
   refine⟨ρ',S1,δ',ds[i],δ1,E'.same ss,rr,h3,fun σ2 H2 s2 E2=>⟨ρ',S1,δ1,o1,S2,E2,h5,?_⟩⟩
   have pv2:Pre ρ1 H1 ρ' H2:=pv.trans (Pre.same (ss.trans s2))
   cases o1 with
   | nx δ2=>exact fun σ3 ρ3 H3 p3 E3=>⟨ρ3,S2,δ2,pv2.trans p3,E3,h6⟩
   | rt d=>
     cases h6
     exact fun v ρ3 H3 p3 w r=>q v ρ3 H3 (p1.trans (pv2.trans p3)) w r
 ·have e:i=ds.length:=by omega
  subst e
  rw[List.drop_length] at hl
  cases hl
  exact .inl ⟨stop,q σ' ρ' H' (p1.trans pv) E'⟩⟩
end
end L3
end
section
set_option maxRecDepth 100000
set_option maxHeartbeats 4000000
namespace L3
open PySem PySem.Spec PyProof.Rows L2
mutual
noncomputable def uo(n:Nat):V3→Bool
 | .d _=>true
 | .loc k=>decide (k < n)
 | .lst vs=>me n vs
 | .tup vs=>me n vs
noncomputable def me(n:Nat):List V3→Bool
 | []=>true
 | v ::vs=>uo n v && me n vs
end
noncomputable def oQ(n:Nat):SO→Bool
 | .ins _ fs=>me n (fs.map (·.2))
 | _=>true
theorem CQ{ρ:P3}{n:Nat}{b:Addr}(h:b∈(ρ.cut n).b):b∈ρ.b:=by
 rcases P3.d6.mp h with z | z
 ·exact P3.d6.mpr (.inl ⟨List.mem_of_mem_take z.1,z.2⟩)
 ·exact P3.d6.mpr (.inr z)
theorem iE{ρ:P3}{H:Hp}(n:Nat):dM ρ.b H (ρ.cut n).b H:=fun b o e nb=>⟨e,fun hb=>nb (CQ hb)⟩
mutual
theorem br.cut{K:PySem.W.Frag}{ρ:P3}{H:Hp}{n:Nat}:∀{v:V3} {x:V},uo n v=true→br K ρ H v x→br K (ρ.cut n) H v x
 | .d y,x,_,h=>by unfold br at h ⊢;exact h.bp (iE n)
 | .loc k,x,o,h=>by
   unfold br at h ⊢
   unfold uo at o
   obtain⟨a,h1,h2⟩:=h
   exact⟨a,by show(ρ.r.take n)[k]? =_;rw [List.getElem?_take_of_lt (of_decide_eq_true o)];exact h1,h2⟩
 | .lst vs,x,o,h=>by
   unfold br at h ⊢
   unfold uo at o
   obtain⟨a,xs,e,l,r⟩:=h
   exact⟨a,xs,e,l.bp (iE n),aC.cut o r⟩
 | .tup vs,x,o,h=>by
   unfold br at h ⊢
   unfold uo at o
   obtain⟨a,xs,e,l,r⟩:=h
   exact⟨a,xs,e,rf.bp (iE n) l,aC.cut o r⟩
theorem aC.cut{K:PySem.W.Frag}{ρ:P3}{H:Hp}{n:Nat}:∀{vs:List V3} {xs:List V},me n vs=true→aC K ρ H vs xs→aC K (ρ.cut n) H vs xs
 | [],_,_,h=>by unfold aC at h ⊢;exact h
 | v ::vs,xs,o,h=>by
   unfold me at o
   obtain⟨o1,o2⟩:=Bool.and_eq_true_iff.mp o
   obtain⟨x,r,rfl,h1,h2⟩:=h.cn
   exact aC.cons (br.cut o1 h1) (aC.cut o2 h2)
end
theorem SW.cut{K:PySem.W.Frag}{cl:Nat→Addr}{ρ:P3}{H:Hp}{S:aN}(w:SW K cl ρ H S){n:Nat}(ok:(S.take n).all (oQ n)=true):SW K cl (ρ.cut n) H (S.take n):=
 ⟨by show(ρ.r.take n).length=_;rw [List.length_take,List.length_take,w.len],fun i j a hi hj=>by
   have hi:(ρ.r.take n)[i]? =some a:=hi
   have hj:(ρ.r.take n)[j]? =some a:=hj
   have gi:ρ.r[i]? =some a:=by
    rw[List.getElem?_take] at hi;split at hi
    ·exact hi
    ·cases hi
   have gj:ρ.r[j]? =some a:=by
    rw[List.getElem?_take] at hj;split at hj
    ·exact hj
    ·cases hj
   exact w.nd i j a gi gj,fun k a o hk ho=>by
   have hk:(ρ.r.take n)[k]? =some a:=hk
   have gk:ρ.r[k]? =some a:=by
    rw[List.getElem?_take] at hk;split at hk
    ·exact hk
    ·cases hk
   have go:S[k]? =some o:=by
    rw[List.getElem?_take] at ho;split at ho
    ·exact ho
    ·cases ho
   have r:=w.ob k a o gk go
   have oo:oQ n o=true:=List.all_eq_true.mp ok o (List.mem_of_getElem? ho)
   cases o with
   | lst ds=>obtain⟨xs,e,q⟩:=r;exact⟨xs,e,q.bp (iE n)⟩
   | dct kvs=>obtain⟨ys,e,e2,q⟩:=r;exact⟨ys,e,e2,q.bp (iE n)⟩
   | ins c fs=>obtain⟨dx,ys,e,e2,q⟩:=r;exact⟨dx,ys,e,e2,q.cut oo⟩
   | iF=>exact r,fun b hb=>let⟨h1,h2⟩:=w.zb b hb;⟨h1,fun h=>h2 (List.mem_of_mem_take h)⟩,(fun k a hk ho=>by
   have hk:(ρ.r.take n)[k]? =some a:=hk
   rw[List.getElem?_take] at hk
   split at hk
   ·rename_i hlt
    rw[List.getElem?_take_of_lt hlt] at ho
    exact w.fz k a hk ho
   ·cases hk),w.ff,(fun k a hk ho=>by
   have hk:(ρ.r.take n)[k]? =some a:=hk
   rw[List.getElem?_take] at hk
   split at hk
   ·rename_i hlt
    rw[List.getElem?_take_of_lt hlt] at ho
    exact w.fi k a hk ho
   ·cases hk)⟩
theorem SW.Fo{K:PySem.W.Frag}{cl:Nat→Addr}{ρ ρ':P3}{H H':Hp}{n:Nat}(hn:ρ.r.length≤n)(p:Pre ρ H ρ' H'):Pre ρ H (ρ'.cut n) H':=
 ⟨p.bp.trans (iE n),p.zz,p.zs,fun k a h=>by show(ρ'.r.take n)[k]? =_;rw [List.getElem?_take_of_lt (Nat.lt_of_lt_of_le (List.getElem?_eq_some_iff.mp h).1 hn)];exact p.ext k a h⟩
section
variable {X:Cx} {cl:Nat→Addr}
noncomputable def cG(S:aN)(k:Nat):Option (List D):=match S[k]? with | some (.lst ds)=>some ds | _=>none
theorem gB{S:aN}{k:Nat}{ds:List D}(h:cG S k=some ds):S[k]? =some (.lst ds):=by
 unfold cG at h
 split at h
 ·rename_i e;cases h;exact e
 ·cases h
noncomputable def fG(δ:DE)(i:Nat):Option Nat:=match δ[i]? with | some (some (.loc k))=>some k | _=>none
theorem md{δ:DE}{i k:Nat}(h:fG δ i=some k):δ[i]? =some (some (.loc k)):=by
 unfold fG at h
 split at h
 ·rename_i e;cases h;exact e
 ·cases h
noncomputable def lg(i:Nat)(f:FX):FZ:=fun δ S=>match fG δ i with
 | none=> .no
 | some k=>match cG S k with
   | none=> .no
   | some _=>(f δ S).bind fun v S1=>match v with
     | .d d=>(match cG S1 k with | some ds=>R3.bC (decide (ds.length < sizeLine)) (.ok (.nx δ) (S1.set k (.lst (ds++[d])))) | none=> .no)
     | _=> .no
theorem iO{i:Nat}{x:Str}{e:Expr}{f:FX}{npos apos cpos pos:Pos}(hN:X.N[i]? =some x)(hv:D0 X.env.scope x)(he:PX X cl e f)
 (hd:(x==("__debug__":Str))=false:=by decide) (hcd:(x==("__classdict__":Str))=false:=by decide)
 (hs:starEach [e] X.env=(false,eval e X.env) ::starEach [] X.env:=by rfl) (hline:(apos.endLine==cpos.line)=true:=by rfl)
 (hfew:((backTo cpos (starEach [e] X.env)).all (fun x=>!x.1) && (backToKw cpos (keywordEach [] X.env)).all (fun x=>x.1.isSome)
   && decide (([e]:List Expr).length+([]:List Keyword).length+(if([]:List Keyword).isEmpty then 0 else 1) < 30))=true:=by rfl)
 (hsw:swapsWith (.Call (.Attribute (.Name x npos) "append" apos) [e] [] cpos) none pos.line X.env=pure false:=by rfl)
 (hbase:attributeBase (.Name x npos) "append" X.env (eval (.Name x npos) X.env)=eval (.Name x npos) X.env:=by rfl) :
 PZ X cl (.Expr (.Call (.Attribute (.Name x npos) "append" apos) [e] [] cpos) pos) (lg i f):=by
 refine⟨(xO (Bz (X:=X) PySem.F.plainAttrs_list PySem.F.slot_list_append PySem.F.type_list_append nj (sg hN hv hd hcd) (gJ he.1 jf hs) hbase hfew hline hs) hsw).imp fun D σ H ⟨ρ,S,δ,o,S',E,hf,q⟩=>?_⟩
 unfold lg at hf
 split at hf
 ·cases hf
 ·rename_i k hk
  split at hf
  ·cases hf
  ·rename_i ds0 h0
   obtain⟨v,S1,h1,h2⟩:=R3.ak hf
   split at h2
   ·rename_i d
    split at h2
    ·rename_i ds h3
     obtain⟨hl,h4⟩:=R3.bj h2
     cases h4
     obtain⟨u,u1,u2⟩:=E.val i _ (md hk)
     unfold br at u2
     obtain⟨a,a1,rfl⟩:=u2
     obtain⟨xs0,x0,_⟩:=E.sw.ob k a _ a1 (gB h0)
     refine⟨.ref a,u1, .inl ⟨rfl,xs0,mD.of x0⟩,⟨ρ,S,δ, .d d,S1,E,h1,fun y ρ1 H1 p1 w1 r1=>?_⟩⟩
     have b1:=p1.ext k a a1
     obtain⟨xs,x1,x2⟩:=w1.ob k a _ b1 (gB h3)
     refine⟨a,xs,y,rfl,rfl,x1,by rw[←x2.length];exact of_decide_eq_true hl,?_⟩
     unfold br at r1
     obtain⟨w2,p2⟩:=w1.put (o:= .lst (ds++[d])) (u:= .lst (xs++[y])) b1 (w1.fz k a b1 (by rw[gB h3];intro h;cases h)) ⟨xs++[y],rfl,x2.append (aF.cons r1 aF.nil)⟩
     exact q σ ρ1 _ (p1.trans p2) (E.to (p1.trans p2) w2)
    ·cases h2
   ·cases h2
noncomputable def DD(fo fi fe:FX):FZ:=fun δ S=>(fe δ S).bind fun v S1=>(fo δ S1).bind fun o S2=>(fi δ S2).bind fun j S3=>match v,o,j with
 | .d d, .loc k, .d (.int n)=>(match cG S3 k with
   | some ds=>(match pW ds.length n with | some m=> .ok (.nx δ) (S3.set k (.lst (ds.set m d))) | none=> .no)
   | none=> .no)
 | _,_,_=> .no
noncomputable def Bt(K:PySem.W.Frag)(cl:Nat→Addr)(n:Nat)(g:List V3→aN→R3 V3):Sp:=fun vs H Q _=>vs.length=n∧∃ρ S xs v S',SW K cl ρ H S∧aC K ρ H xs vs∧g xs S= .ok v S'∧∀u ρ' H',Pre ρ H ρ' H'→SW K cl ρ' H' S'→br K ρ' H' v u→Q u H'
noncomputable def dc(g:List V3→aN→R3 V3)(fs:FA):FX:=fun δ S=>(fs δ S).bind g
noncomputable def aP(P:Program)(w:World)(K:PySem.W.Frag)(mg:Str→Option Value)(base:Heap)(cl:Nat→Addr)(k:Nat)(x:Str)(n:Nat)(g:List V3→aN→R3 V3):Prop:=
 ∃(f:Addr) (fd:FuncData) (ps:List Str),hJ P w K mg base qQ k f fd ps (Bt K cl n g)∧mg x=some (.ref f)∧PySem.W.keepIn K (.ref f)=true∧Binds K fd ps []
theorem bS{g:List V3→aN→R3 V3}{k j n:Nat}{x:Str}{p pos:Pos}{e:Expr}{es:List Expr}{fs:FA}(C:aP X.prog X.w X.K X.mg X.base cl k x n g)(hr:eI j X.A)(hkj:k≤j)(hg:Gl X x)(ha:Dc X cl (e ::es) fs)
 (hn:∀δ S ds S',fs δ S= .ok ds S'→ds.length=n) (hdb:(x==("__debug__":Str))=false:=by decide) (he:starEach (e ::es) X.env=(false,eval e X.env) ::starEach es X.env:=by rfl) (hpl:(backTo pos (starEach es X.env)).any (·.1)=false:=by rfl) :
 PX X cl (.Call (.Name x p) (e ::es) [] pos) (dc g fs):=by
 obtain⟨f,fd,ps,F,hm,hk,hb⟩:=C
 refine⟨(su F (hr.mono hkj) hg hm hk hb .nil vm ha.1 hdb he hpl).imp fun σ H Q ⟨ρ,S,δ,v,S',E,hf,q⟩=>?_⟩
 obtain⟨vs,S1,h1,h2⟩:=R3.ak hf
 refine⟨ρ,S,δ,vs,S1,E,h1,fun us ρ1 H1 p1 w1 r1=>?_⟩
 show Bt X.K cl n g (us++[]) H1 Q E0
 rw[List.append_nil]
 exact⟨by rw[←r1.length];exact hn δ S vs S1 h1,ρ1,S1,vs,v,S',w1,r1,h2,fun z ρ2 H2 p2 w2 r2=>q z ρ2 H2 (p1.trans p2) w2 r2⟩
end
noncomputable def bQ(N:List Str)(vs:List V3):DE:=vs.map some++List.replicate (N.length - vs.length) none
theorem Ar{K:PySem.W.Frag}{cl:Nat→Addr}{ρ:P3}{H:Hp}{S:aN}{N:List Str}{ds:List V3}{vs:List V}(w:SW K cl ρ H S)(r:aC K ρ H ds vs):fk K cl ρ H S (L2.start N vs) (bQ N ds) where
 len:=by unfold L2.start bQ;simp [r.length]
 sw:=w
 val:=fun i d e=>by
  unfold bQ at e
  unfold L2.start
  by_cases hi:i < ds.length
  ·rw[List.getElem?_append_left (by simpa using hi),List.getElem?_map] at e
   cases q:ds[i]? with
   | none=>rw [q] at e;cases e
   | some d'=>
     rw[q] at e
     cases e
     obtain⟨x,h1,h2⟩:=r.get q
     exact⟨x,by rw[List.getElem?_append_left (by rw[List.length_map,←r.length];exact hi),List.getElem?_map,h1];rfl,h2⟩
  ·rw[List.getElem?_append_right (by simpa using hi),List.getElem?_replicate] at e
   split at e <;> cases e
noncomputable def mi(N:List Str)(F:FZ):List V3→aN→R3 V3:=fun vs S=>(F (bQ N vs) S).bind fun o S'=>match o with | .rt v=> .ok v S' | .nx _=> .ok (.d .dk) S'
noncomputable def n4(N:List Str)(F:FZ):List V3→aN→R3 V3:=fun vs S=>(mi N F vs S).bind fun v S'=>match res S' v with
 | some d=>R3.bC ((S'.take S.length).all (oQ S.length) && eO S.length v) (.ok (.d d) (S'.take S.length))
 | none=> .no
theorem CY{P:Program}{w:World}{K:PySem.W.Frag}{mg:Str→Option Value}{base:Heap}{cl:Nat→Addr}{x qual:Str}{st:Stmt}{f:Addr}{fd:FuncData}{N ps:List Str}{k:Nat}{F:FZ}(Fn:yc K x qual st f fd)(S:aY N ps (ae st))
 (hbody:∀(cdv:Value) (A:Around) (outer:List Env) (s:Shared) (H:Hp) (E:XK),eI k (A.deeper (envOfC qual (ae st) s.heap.objs.size f cdv))→
   zo (qg qQ P w K mg base N qual (ae st) f cdv A outer s H E).C9 cl (ai st) F):hJ P w K mg base qQ (k+1) f fd ps (Bt K cl ps.length (mi N F)):=by
 refine Fn.ok S (fun vs H Q E h=>h.1) (fun cdv A outer s H vs Q E hr h=>⟨_,(hbody cdv A outer s H E hr).1,?_⟩)
 obtain⟨_,ρ,S,ds,v,S',w,r,hg,q⟩:=h
 obtain⟨o,S1,h1,h2⟩:=R3.ak hg
 refine⟨ρ,S,bQ N ds,o,S1,Ar w r,h1,?_⟩
 cases o with
 | nx δ'=>
   cases h2
   exact fun σ' ρ' H' p' E'=>q _ ρ' H' p' E'.sw (by unfold br Rep;rfl)
 | rt d'=>
   cases h2
   exact fun u ρ' H' p' w' r'=>q u ρ' H' p' w' r'
theorem vT{K:PySem.W.Frag}{cl:Nat→Addr}{N:List Str}{F:FZ}{n:Nat}{vs:List V}{H:Hp}{Q:VK}{E:XK}(h:Bt K cl n (n4 N F) vs H Q E):Bt K cl n (mi N F) vs H Q E:=by
 obtain⟨hl,ρ,S,xs,v,S',w,r,hg,q⟩:=h
 obtain⟨v1,S1,h1,h2⟩:=R3.ak hg
 refine⟨hl,ρ,S,xs,v1,S1,w,r,h1,fun u ρ1 H1 p1 w1 r1=>?_⟩
 have pc:Pre ρ H (ρ1.cut S.length) H1:=SW.Fo (K:=K) (cl:=cl) (by rw[w.len];exact Nat.le_refl _) p1
 split at h2
 ·rename_i d e
  obtain⟨ok,h3⟩:=R3.bj h2
  obtain⟨ok,hk⟩:=Bool.and_eq_true_iff.mp ok
  cases h3
  refine q u _ H1 pc (w1.cut ok) ?_
  unfold br
  refine r1.resB w1 (iE _) (fun k a hk a1 ha=>?_) hk e
  rcases P3.d6.mp ha with⟨z,_⟩ | z
  ·obtain⟨j,hj⟩:=List.getElem?_of_mem z
   have hj:(ρ1.r.take S.length)[j]? =some a:=hj
   rw[List.getElem?_take] at hj
   split at hj
   ·rename_i hjl
    have:=w1.nd j k a hj a1
    omega
   ·cases hj
  ·exact(w1.zb a z).2 (List.mem_of_getElem? a1)
 ·cases h2
end L3
end
section
set_option maxRecDepth 100000
set_option maxHeartbeats 4000000
namespace L3
open PySem PySem.Spec PyProof.Rows L2
theorem aF.setAt{K:PySem.W.Frag}{ρ:P3}{H:Hp}:∀{ds:List D} {xs:List V} {m:Nat} {d:D} {v:V},aF K ρ.b H ds xs→Rep K ρ.b H d v→aF K ρ.b H (ds.set m d) (xs.set m v)
 | [],_,_,_,_,h,_=>by unfold aF at h;subst h;exact aF.nil
 | e ::ds,xs,0,d,v,h,r=>by
   obtain⟨x,r',rfl,h1,h2⟩:=h.cn
   exact aF.cons r h2
 | e ::ds,xs,m+1,d,v,h,r=>by
   obtain⟨x,r',rfl,h1,h2⟩:=h.cn
   exact aF.cons h1 (aF.setAt h2 r)
section
variable {X:Cx} {cl:Nat→Addr}
theorem zF{o i e:Expr}{fo fi fe:FX}{spos pos:Pos}(he:PX X cl e fe)
 (hg:PG X (.Subscript o i spos) (GZ (tX X.K cl fo) (tX X.K cl fi) D4))
 (hs:swapsWithSole [.Subscript o i spos] e pos.line X.env=pure false:=by rfl) (hw:swappedStores [.Subscript o i spos] e X.env=pure none:=by rfl)
 (h1:(assignEach [.Subscript o i spos] X.env).map (·.2)=[assign (.Subscript o i spos) X.env]:=by rfl):PZ X cl (.Assign [.Subscript o i spos] e pos) (DD fo fi fe):=⟨(BN he.1 hg hs hw h1).imp fun D σ H ⟨ρ,S,δ,ou,S',E,hf,q⟩=>by
 obtain⟨v,S1,h1,h2⟩:=R3.ak hf
 obtain⟨vo,S2,h3,h4⟩:=R3.ak h2
 obtain⟨vi,S3,h5,h6⟩:=R3.ak h4
 split at h6
 ·rename_i d k n
  split at h6
  ·rename_i ds hds
   split at h6
   ·rename_i m hm
    cases h6
    refine⟨ρ,S,δ, .d d,S1,E,h1,fun u ρ1 H1 p1 w1 r1=>⟨ρ1,S1,δ, .loc k,S2,E.to p1 w1,h3,fun u2 ρ2 H2 p2 w2 r2=>⟨ρ2,S2,δ, .d (.int n),S3,(E.to p1 w1).to p2 w2,h5,fun u3 ρ3 H3 p3 w3 r3=>?_⟩⟩⟩
    unfold br at r2
    obtain⟨a,a1,rfl⟩:=r2
    have a3:=p3.ext k a a1
    obtain⟨xs,x1,x2⟩:=w3.ob k a _ a3 (gB hds)
    unfold br Rep at r3
    have r1':=r1.pre (p2.trans p3)
    unfold br at r1'
    obtain⟨w4,p4⟩:=w3.put (o:= .lst (ds.set m d)) (u:= .lst (xs.set m u)) a3 (w3.fz k a a3 (by rw[gB hds];intro h;cases h)) ⟨xs.set m u,rfl,aF.setAt x2 r1'⟩
    exact⟨a,xs,n,m,rfl,r3,x1,by rw[←x2.length];exact hm,q σ ρ3 _ (((p1.trans p2).trans p3).trans p4) (E.to (((p1.trans p2).trans p3).trans p4) w4)⟩
   ·cases h6
  ·cases h6
 ·cases h6⟩
noncomputable def kX(δ:DE)(i:Nat):Option V3:=match δ[i]? with | some (some v)=>some v | _=>none
noncomputable def gr(own:List Str)(kp:List Nat)(δ:DE):DE:=List.replicate own.length none++kp.map (kX δ)
theorem B9{K:PySem.W.Frag}{ρ ρ':P3}{H H':Hp}{S S':aN}{σ:L2.St}{δ:DE}{own:List Str}{kp:List Nat}(E:fk K cl ρ H S σ δ)(p:PW ρ H ρ' H')(w:SW K cl ρ' H' S'):fk K cl ρ' H' S' (dN own kp σ) (gr own kp δ) where
 len:=by unfold dN gr;simp
 sw:=w
 val:=fun i d e=>by
  unfold gr at e
  unfold dN
  by_cases hi:i < own.length
  ·rw[List.getElem?_append_left (by simpa using hi),List.getElem?_replicate] at e
   split at e <;> cases e
  ·rw[List.getElem?_append_right (by simpa using hi),List.length_replicate,List.getElem?_map] at e ⊢
   cases q:kp[i - own.length]? with
   | none=>rw [q] at e;cases e
   | some j=>
     rw[q] at e
     have e:kX δ j=some d:=Option.some.inj e
     unfold kX at e
     split at e
     ·rename_i d' ed
      cases e
      obtain⟨v,h1,h2⟩:=E.val j d ed
      exact⟨v,by simp [h1],h2.pw p⟩
     ·cases e
noncomputable def kQ(t:FG)(c:FB)(f:FX)(δ:DE):List V3→aN→R3 (List V3)
 | [],S=> .ok [] S
 | v ::vs,S=>match t v δ with
   | none=> .no
   | some δ1=>(c δ1 S).bind fun b S1=>if b then(f δ1 S1).bind fun y S2=>(kQ t c f δ vs S2).bind fun ys S3=> .ok (y ::ys) S3 else kQ t c f δ vs S1
noncomputable def kz(it:FA)(t:FG)(c:FB)(f:FX)(own:List Str)(kp:List Nat):FX:=fun δ S=>(it δ S).bind fun vs S1=>R3.bC (decide (vs.length≤sizeLine)) ((kQ t c f (gr own kp δ) vs S1).bind fun ys S2=> .ok (iu ys) S2)
theorem aC.append{K:PySem.W.Frag}{ρ:P3}{H:Hp}:∀{ds es:List V3} {xs ys:List V},aC K ρ H ds xs→aC K ρ H es ys→aC K ρ H (ds++es) (xs++ys)
 | [],_,_,_,h,t=>by unfold aC at h;subst h;exact t
 | d ::ds,es,xs,ys,h,t=>by
   obtain⟨x,r,rfl,h1,h2⟩:=h.cn
   exact aC.cons h1 (aC.append h2 t)
theorem xt{K:PySem.W.Frag}{it:FA}{t:FG}{c:FB}{f:FX}{own:List Str}{kp:List Nat}{σ:L2.St}{H:Hp}{Q:VK}(h:tX K cl (kz it t c f own kp) σ H Q) :
 xg (J8 K cl it) (gX K cl t) (Gk K cl c) (tX K cl f) own kp σ H Q:=by
 obtain⟨ρ,S,δ,v,SF,E,hf,q⟩:=h
 obtain⟨es,S1,h1,h2⟩:=R3.ak hf
 obtain⟨hl,h3⟩:=R3.bj h2
 have hl:=of_decide_eq_true hl
 obtain⟨vs,S2,h4,h5⟩:=R3.ak h3
 cases h5
 refine⟨ρ,S,δ,es,S1,E,h1,fun J ρ1 H1 p1 w1 ir Dd hD=>?_⟩
 have nDz:Dd ∉ ρ1.b:=fun hb=>by obtain⟨o,ho⟩:=w1.bs Dd hb;rw [hD] at ho;cases ho
 have nDr:Dd ∉ ρ1.r:=fun hb=>by obtain⟨o,ho⟩:=w1.rs Dd hb;rw [hD] at ho;cases ho
 have toZ:∀{r' f':List Addr} {H':Hp},Pre ρ1 H1 ⟨r',ρ1.z,f'⟩ H'→PW ρ1 H1 ⟨r',Dd ::ρ1.z,f'⟩ H':=fun {r' f' H'} p=>⟨fun b o e nb=>⟨(p.bp b o e nb).1,fun hb=>by
  rcases P3.d6.mp hb with z | z
  ·exact(p.bp b o e nb).2 (P3.d6.mpr (.inl z))
  ·rcases List.mem_cons.mp z with y | y
   ·exact cC e hD y
   ·exact(p.bp b o e nb).2 (P3.d6.mpr (.inr y))⟩,p.ext⟩
 have w0:SW K cl ⟨ρ1.r,Dd ::ρ1.z,ρ1.f⟩ (upd H1 Dd (.lst [])) S1:=by
  have s0:aQ H1 (upd H1 Dd (.lst [])):=bo hD
  have ws:=w1.same s0
  refine⟨ws.len,ws.nd,fun k a o hk ho=>?_,fun b hb=>?_,ws.fz,ws.ff,ws.fi⟩
  ·have r:=w1.ob k a o hk ho
   obtain⟨u,hu⟩:=r.some
   rw[s0 a u hu,←hu]
   exact r.pw (toZ (Pre.same s0))
  ·rcases List.mem_cons.mp hb with y | y
   ·subst y;exact⟨⟨_,bc⟩,nDr⟩
   ·exact ws.zb b y
 refine⟨fun i m ys H'=>m=es.length - i∧i≤es.length∧ys.length≤i∧H' Dd=some (.lst ys)∧∃r' f' S' done rest,Pre ρ1 H1 ⟨r',ρ1.z,f'⟩ H'∧SW K cl ⟨r',Dd ::ρ1.z,f'⟩ H' S'∧vs=done++rest∧aC K ⟨r',Dd ::ρ1.z,f'⟩ H' done ys∧kQ t c f (gr own kp δ) (es.drop i) S'= .ok rest SF,
  ⟨es.length,rfl,Nat.zero_le _,Nat.le_refl _,bc,ρ1.r,ρ1.f,S1,[],vs,Pre.same (bo hD),w0,rfl,aC.nil,by simpa using h4⟩,?_⟩
 rintro i m ys H' ⟨rfl,hi,hy,hDl,r',f',S',done,rest,pv,w',rfl,rd,hc⟩
 obtain⟨go,stop⟩:=ir ⟨r',Dd ::ρ1.z,f'⟩ H' (toZ pv) w'.bs
 have unZ:∀{ρ4:P3} {H4:Hp},Pre ⟨r',Dd ::ρ1.z,f'⟩ H' ρ4 H4→Pre ρ1 H1 ⟨ρ4.r,ρ1.z,ρ4.f⟩ H4:=fun {ρ4 H4} p4=>⟨fun b o e nb=>by
  obtain⟨e1,n1⟩:=(toZ pv).bp b o e nb
  obtain⟨e2',n2⟩:=p4.bp b o e1 n1
  refine⟨e2',fun hb=>n2 ?_⟩
  rcases P3.d6.mp hb with z | z
  ·exact P3.d6.mpr (.inl z)
  ·exact P3.d6.mpr (.inr (by rw[p4.zz];exact List.mem_cons_of_mem _ z)),rfl,fun b o hb h=>p4.zs b o (List.mem_cons_of_mem _ hb) (pv.zs b o hb h),fun k a h=>p4.ext k a (pv.ext k a h)⟩
 by_cases hlt:i < es.length
 ·have hd:es[i]? =some es[i]:=List.getElem?_eq_getElem hlt
  have hdrop:es.drop i=es[i] ::es.drop (i+1):=List.drop_eq_getElem_cons hlt
  rw[hdrop] at hc
  unfold kQ at hc
  split at hc
  ·cases hc
  ·rename_i δ1 h6
   obtain⟨b,T1,h7,h8⟩:=R3.ak hc
   obtain⟨g1,g2⟩:=go i _ hd
   refine .inr ⟨g1,fun x H2 y=>?_⟩
   obtain⟨sy,ry⟩:=g2 x H2 y
   have Ec:fk K cl ⟨r',Dd ::ρ1.z,f'⟩ H2 S' (dN own kp σ) (gr own kp δ):=B9 E (p1.pw.trans ((toZ pv).trans (Pre.same sy).pw)) (w'.same sy)
   refine⟨⟨r',Dd ::ρ1.z,f'⟩,S',gr own kp δ,es[i],δ1,Ec,ry,h6,fun σ3 H3 s3 E3=>⟨⟨r',Dd ::ρ1.z,f'⟩,S',δ1,b,T1,E3,h7,fun ρ4 H4 p4 w4=>?_⟩⟩
   have pv4:Pre ⟨r',Dd ::ρ1.z,f'⟩ H' ρ4 H4:=(Pre.same (sy.trans s3)).trans p4
   cases b with
   | true=>
     rw[if_pos rfl] at h8
     refine BL ?_
     obtain⟨yv,T2,h9,h10⟩:=R3.ak h8
     obtain⟨rs,T3,h11,h12⟩:=R3.ak h10
     cases h12
     refine⟨ρ4,T1,δ1,yv,T2,E3.to p4 w4,h9,fun v5 ρ5 H5 p5 w5 r5=>?_⟩
     have pv5:Pre ⟨r',Dd ::ρ1.z,f'⟩ H' ρ5 H5:=pv4.trans p5
     have hD5:H5 Dd=some (.lst ys):=pv5.zs Dd _ List.mem_cons_self hDl
     have u5:=unZ pv5
     obtain⟨r5',z5,f5⟩:=ρ5
     have ez:z5=Dd ::ρ1.z:=pv5.zz
     subst ez
     have nr:Dd ∉ r5':=(w5.zb Dd List.mem_cons_self).2
     have pw:PW ⟨r5',Dd ::ρ1.z,f5⟩ H5 ⟨r5',Dd ::ρ1.z,f5⟩ (upd H5 Dd (.lst (ys++[v5]))):=⟨fun b o e nb=>⟨by rw[ba (fun(z:b=Dd)=>nb (by rw[z];exact P3.d6.mpr (.inr List.mem_cons_self)))];exact e,nb⟩,fun _ _ h=>h⟩
     refine⟨hD5,by omega,es.length - (i+1),by omega,rfl,hlt,by rw[List.length_append,List.length_singleton];omega,bc,r5',f5,T2,done++[yv],rs,?_,?_,by simp,aC.append ((rd.pre pv5).pw pw) (aC.cons (r5.pw pw) aC.nil),h11⟩
     ·refine⟨fun b o e nb=>⟨by rw[ba (cC e hD)];exact(u5.bp b o e nb).1,(u5.bp b o e nb).2⟩,rfl,fun b o hb h=>?_,u5.ext⟩
      rw[ba (cC h hD)]
      exact u5.zs b o hb h
     ·refine⟨w5.len,w5.nd,fun k a o hk ho=>?_,fun b hb=>?_,w5.fz,fun b hb=>?_,w5.fi⟩
      ·have ne:a≠Dd:=fun z=>nr (by rw[←z];exact List.mem_of_getElem? hk)
       rw[ba ne]
       exact(w5.ob k a o hk ho).pw pw
      ·obtain⟨⟨o,ho⟩,n⟩:=w5.zb b hb
       refine⟨?_,n⟩
       by_cases z:b=Dd
       ·subst z;exact⟨_,bc⟩
       ·rw[ba z];exact⟨o,ho⟩
      ·obtain⟨o,ho⟩:=w5.ff b hb
       by_cases z:b=Dd
       ·subst z;exact⟨_,bc⟩
       ·rw[ba z];exact⟨o,ho⟩
   | false=>
     rw[if_neg (by decide)] at h8
     refine zG ?_
     have hD4:H4 Dd=some (.lst ys):=pv4.zs Dd _ List.mem_cons_self hDl
     have u4:=unZ pv4
     obtain⟨r4',z4,f4⟩:=ρ4
     have ez:z4=Dd ::ρ1.z:=pv4.zz
     subst ez
     exact⟨es.length - (i+1),by omega,rfl,hlt,by omega,hD4,r4',f4,T1,done,rest,u4,w4,rfl,rd.pre pv4,h8⟩
 ·have e:i=es.length:=by omega
  subst e
  rw[List.drop_length] at hc
  cases hc
  rw[List.append_nil] at q
  refine .inl ⟨stop,?_⟩
  have back:PW ⟨r',Dd ::ρ1.z,f'⟩ H' ⟨r',ρ1.z,f'⟩ H':=⟨fun b o e nb=>⟨e,fun hb=>nb (by
   rcases P3.d6.mp hb with z | z
   ·exact P3.d6.mpr (.inl z)
   ·exact P3.d6.mpr (.inr (List.mem_cons_of_mem _ z)))⟩,fun _ _ h=>h⟩
  have wB:SW K cl ⟨r',ρ1.z,f'⟩ H' _:=⟨w'.len,w'.nd,fun k a o hk ho=>(w'.ob k a o hk ho).pw back,fun b hb=>w'.zb b (List.mem_cons_of_mem _ hb),w'.fz,w'.ff,w'.fi⟩
  refine q _ ⟨r',ρ1.z,f'⟩ H' (p1.trans pv) wB (rD (.inl ⟨fun hb=>?_, .inl hDl⟩) (rd.pw back))
  rcases P3.d6.mp hb with z | z
  ·exact(w'.zb Dd List.mem_cons_self).2 z.1
  ·exact nDz (P3.d6.mpr (.inr z))
end
end L3
end
section
set_option maxRecDepth 100000
set_option maxHeartbeats 4000000
namespace L3
open PySem PySem.Spec PyProof.Rows L2
section
variable {X:Cx} {cl:Nat→Addr}
theorem tq{scope:Scope}{own:List Str}{kp:List Nat}{kn:List Str}{tg iter elt:Expr}{ifs:List Expr}{it:FA}{t:FG}{c:FB}{f:FX}{pos:Pos}(hc:X.calm=true)(C:cf X scope own kp kn)(hi:EV X cl tg iter it)
 (hg:∀fp s H,GG (bJ X scope (own++kn) fp s H) cl tg t) (hif:∀fp s H,nM (bJ X scope (own++kn) fp s H) ifs (Gk X.K cl c)) (he:∀fp s H,PX (bJ X scope (own++kn) fp s H) cl elt f)
 (hs:∀x,foldedSetIterable iter X.env x=pure x:=by intro _;rfl):PX X cl (.ListComp elt [⟨tg,iter,ifs,0⟩] scope pos) (kz it t c f own kp):=
 ⟨(xf hc C hi.1 (fun fp s H=>(hg fp s H).1) hif (fun fp s H=>(he fp s H).1) hs).imp fun σ H Q h=>xt h⟩
noncomputable def wM:FB:=fun _ S=> .ok true S
theorem jC:nM X [] (Gk X.K cl wM):=fun pins s σ H Q I ⟨ρ,S,δ,b,S',E,hf,q⟩=>uc pins s σ H Q I (by cases hf;exact q ρ H (Pre.refl ρ H) E.sw)
theorem AR{e:Expr}{c:FB}(h:DK X cl e c):nM X [e] (Gk X.K cl c):=uh h.1
theorem F_{K:PySem.W.Frag}{i:Nat}{f:FX}{D:Ends}{σ:L2.St}{H:Hp}(h:sX K cl (dh i f) D σ H):yI (tX K cl f) (p7 i) D σ H:=by
 obtain⟨ρ,S,δ,o,S',E,hf,q⟩:=h
 obtain⟨v,S1,h1,h2⟩:=R3.ak hf
 obtain⟨hi,h3⟩:=R3.bj h2
 cases h3
 refine⟨ρ,S,δ,v,_,E,h1,fun u ρ1 H1 p1 w1 r1=>?_⟩
 exact q _ ρ1 H1 p1 ((E.to p1 w1).set (by rw[←E.len];exact of_decide_eq_true hi) r1)
theorem mf{i:Nat}{x:Str}{pos' spos:Pos}{scope:Scope}{own:List Str}{kp:List Nat}{kn:List Str}{tg iter elt:Expr}{ifs:List Expr}{it:FA}{t:FG}{c:FB}{f:FX}{pos:Pos}(hc:X.calm=true)
 (hN:X.N.Nodup) (hx:X.N[i]? =some x) (hxl:X.env.scope.names.lookup x=some .local) (C:cf X scope own kp kn) (hi:EV X cl tg iter it)
 (hg:∀fp s H,GG (bJ X scope (own++kn) fp s H) cl tg t) (hif:∀fp s H,nM (bJ X scope (own++kn) fp s H) ifs (Gk X.K cl c)) (he:∀fp s H,PX (bJ X scope (own++kn) fp s H) cl elt f)
 (hsw:swapsWith (.ListComp elt [⟨tg,iter,ifs,0⟩] scope pos) (some (.Name x pos')) spos.line X.env=pure true:=by rfl)
 (hs:∀x,foldedSetIterable iter X.env x=pure x:=by intro _;rfl):PZ X cl (.Assign [.Name x pos'] (.ListComp elt [⟨tg,iter,ifs,0⟩] scope pos) spos) (dh i (kz it t c f own kp)):=
 ⟨(wL hc hN hx hxl C hi.1 (fun fp s H=>(hg fp s H).1) hif (fun fp s H=>(he fp s H).1) hsw hs).imp fun D σ H h=>xt (F_ h)⟩
noncomputable def LW(g:FA):FX:=fun δ S=>(g δ S).bind fun vs S1=>match jE vs with
 | some ds=>R3.bC (decide (ds.length≤sizeLine)) (.ok (.loc S1.length) (S1++[.lst ds]))
 | none=> .no
end
end L3
end
section
set_option maxRecDepth 100000
set_option maxHeartbeats 4000000
namespace L3
open PySem PySem.Spec PyProof.Rows L2
section
variable {X:Cx} {cl:Nat→Addr}
noncomputable def s_(g:List D→R D)(fs:FA):FX:=fun δ S=>(fs δ S).bind fun vs S1=>match jE vs with
 | some ds=>(R3.of (g ds) S1).bind fun d S=> .ok (.d d) S
 | none=> .no
noncomputable def L6(c:FB)(f g:FX):FX:=fun δ S=>(c δ S).bind fun b S=>if b then f δ S else g δ S
theorem aW:∀(δ:DE) (S:aN) (ds:List V3) (S':aN),cR δ S= .ok ds S'→ds.length=0:=fun δ S ds S' h=>by cases h;rfl
theorem aq{f:FX}{g:FA}{n:Nat}(h:∀(δ:DE) (S:aN) (ds:List V3) (S':aN),g δ S= .ok ds S'→ds.length=n):∀(δ:DE) (S:aN) (ds:List V3) (S':aN),aA f g δ S= .ok ds S'→ds.length=n+1:=fun δ S ds S' e=>by
 obtain⟨v,S1,h1,h2⟩:=R3.ak e
 obtain⟨vs,S2,h3,h4⟩:=R3.ak h2
 cases h4
 rw[List.length_cons,h δ S1 vs _ h3]
end
end L3
end
section
set_option maxRecDepth 100000
set_option maxHeartbeats 4000000
namespace L3
open PySem PySem.Spec PyProof.Rows L2
theorem q8{K:PySem.W.Frag}{ρ:P3}{H:Hp}{ds:List V3}{xs:List V}{i:Int}{d:V3}(r:aC K ρ H ds xs)(h:oJ ds i=some d):∃x,oJ xs i=some x∧br K ρ H d x:=by
 unfold oJ at h ⊢
 rw[←r.length]
 cases e:pW ds.length i with
 | none=>rw [e] at h;cases h
 | some j=>
   rw[e] at h
   exact r.get h
section
variable {X:Cx} {cl:Nat→Addr}
noncomputable def GB(fa fb:FX):FX:=fun δ S=>(fa δ S).bind fun a S1=>(fb δ S1).bind fun b S2=>match a,b with
 | .d x, .d y=>(R3.of (cb x y) S2).bind fun d S=> .ok (.d d) S
 | .lst vs, .d (.int i)=>(match oJ vs i with | some v=> .ok v S2 | none=> .no)
 | .tup vs, .d (.int i)=>(match oJ vs i with | some v=> .ok v S2 | none=> .no)
 | _,_=> .no
theorem w6{a b:Expr}{fa fb:FX}{pos:Pos}(ha:PX X cl a fa)(hb:PX X cl b fb)(hs:o7 b):PX X cl (.Subscript a b pos) (GB fa fb):=by
 refine⟨(Eh (r:=Jc X.K) zN ha.1 hb.1 hs).imp fun σ H Q ⟨ρ,S,δ,v,S',E,hf,q⟩=>?_⟩
 obtain⟨v1,S1,h1,h2⟩:=R3.ak hf
 obtain⟨v2,S2,h3,h4⟩:=R3.ak h2
 refine⟨ρ,S,δ,v1,S1,E,h1,fun u1 ρ1 H1 p1 w1 r1=>⟨ρ1,S1,δ,v2,S2,E.to p1 w1,h3,fun u2 ρ2 H2 p2 w2 r2=>?_⟩⟩
 have r1':=r1.pre p2
 have p12:=p1.trans p2
 split at h4
 ·rename_i x y
  obtain⟨d,S3,h5,h6⟩:=R3.ak h4
  obtain⟨h7,e7⟩:=R3.of_ok h5
  cases h6
  subst e7
  unfold br at r1' r2
  unfold cb at h7
  split at h7
  ·split at h7
   ·rename_i e
    cases h7
    obtain⟨p,xs,rfl,l,rs⟩:=Rep.lst.mp r1'
    obtain⟨y,e1,e2⟩:=mH rs e
    exact .inl ⟨p,xs,_,y,rfl,Rep.int.mp r2,l.sq,e1,q y ρ2 H2 p12 w2 (by unfold br;exact e2)⟩
   ·cases h7
  ·split at h7
   ·rename_i e
    cases h7
    obtain⟨p,xs,rfl,l,rs⟩:=Rep.tup.mp r1'
    obtain⟨y,e1,e2⟩:=mH rs e
    exact .inr (.inl ⟨p,xs,_,y,rfl,Rep.int.mp r2,l.sq,e1,q y ρ2 H2 p12 w2 (by unfold br;exact e2)⟩)
   ·cases h7
  ·obtain⟨hl,h8⟩:=R.bj h7
   split at h8
   ·rename_i e
    cases h8
    exact .inr (.inr ⟨_,_,_,Rep.str.mp r1',Rep.int.mp r2,of_decide_eq_true hl,e,q _ ρ2 H2 p12 w2 (by unfold br;exact Rep.str.mpr rfl)⟩)
   ·cases h8
  ·cases h7
 ·split at h4
  ·rename_i e
   cases h4
   unfold br at r1' r2
   obtain⟨p,xs,rfl,l,rs⟩:=r1'
   obtain⟨y,e1,e2⟩:=q8 rs e
   exact .inl ⟨p,xs,_,y,rfl,Rep.int.mp r2,l.sq,e1,q y ρ2 H2 p12 w2 e2⟩
  ·cases h4
 ·split at h4
  ·rename_i e
   cases h4
   unfold br at r1' r2
   obtain⟨p,xs,rfl,l,rs⟩:=r1'
   obtain⟨y,e1,e2⟩:=q8 rs e
   exact .inr (.inl ⟨p,xs,_,y,rfl,Rep.int.mp r2,l.sq,e1,q y ρ2 H2 p12 w2 e2⟩)
  ·cases h4
 ·cases h4
end
end L3
end
section
set_option maxRecDepth 100000
set_option maxHeartbeats 4000000
namespace L3
open PySem PySem.Spec PyProof.Rows L2
section
variable {X:Cx} {cl:Nat→Addr}
structure GH (X:Cx) (cl:Nat→Addr) (e:Expr) (f:FB):Prop where
 go:L2.PW X e (Gk X.K cl f)
theorem GH.pb{e:Expr}{f:FB}(h:GH X cl e f):DK X cl e f:=⟨L2.PW.pt h.1⟩
noncomputable def Lz(f g:FB):FB:=fun δ S=>(f δ S).bind fun b S=>if b then g δ S else .ok false S
noncomputable def JL(f g:FB):FB:=fun δ S=>(f δ S).bind fun b S=>if b then .ok true S else g δ S
noncomputable def KU(f:FB):FB:=fun δ S=>(f δ S).bind fun b S=> .ok (!b) S
theorem Dg{a:Expr}{f:FB}{pos:Pos}(h:DK X cl a f):GH X cl (.BoolOp .Or [a] pos) f:=⟨A8 h.1⟩
theorem Es{a b:Expr}{rest:List Expr}{f g:FB}{pos:Pos}(ha:DK X cl a f)(hb:GH X cl (.BoolOp .Or (b ::rest) pos) g):GH X cl (.BoolOp .Or (a ::b ::rest) pos) (JL f g):=⟨by
 intro wh pins s σ H Q I ⟨ρ,S,δ,k,S',E,hf,q⟩
 refine D2 ha.1 hb.1 wh pins s σ H Q I ?_
 obtain⟨c,S1,h1,h2⟩:=R3.ak hf
 refine⟨ρ,S,δ,c,S1,E,h1,fun ρ1 H1 p1 w1=>?_⟩
 cases c with
 | true=>rw [if_pos rfl] at h2 ⊢;cases h2;exact q ρ1 H1 p1 w1
 | false=>rw [if_neg (by decide)] at h2 ⊢;exact⟨ρ1,S1,δ,k,S',E.to p1 w1,h2,fun ρ2 H' p2 w2=>q ρ2 H' (p1.trans p2) w2⟩⟩
noncomputable def Lu(f:FX):FB:=fun δ S=>(f δ S).bind fun v S=>match v with | .d d=>R3.of (pK d) S | _=> .no
noncomputable abbrev GK:=DE→aN→R3 (Option Int)
noncomputable def LG(K:PySem.W.Frag)(cl:Nat→Addr)(f:GK):TO:=fun σ H Q=>∃ρ S δ o S',fk K cl ρ H S σ δ∧f δ S= .ok o S'∧∀ρ' H',Pre ρ H ρ' H'→SW K cl ρ' H' S'→Q o H'
structure LZ (X:Cx) (cl:Nat→Addr) (e:Option Expr) (f:GK):Prop where
 go:PO X e (LG X.K cl f)
noncomputable def JA:GK:=fun _ S=> .ok none S
noncomputable def Jp(f:FX):GK:=fun δ S=>(f δ S).bind fun v S=>match v with | .d (.int i)=> .ok (some i) S | _=> .no
noncomputable def L4(f:FX)(fl fh:GK):FX:=fun δ S=>(f δ S).bind fun v S1=>(fl δ S1).bind fun lo S2=>(fh δ S2).bind fun hi S3=>match v with
 | .d d=>(R3.of (Fg d lo hi) S3).bind fun r S=> .ok (.d r) S
 | _=> .no
end
end L3
end
section
set_option maxRecDepth 100000
set_option maxHeartbeats 4000000
namespace L2
open PySem PySem.Spec PyProof.Rows
section
variable {X:Cx}
noncomputable def qe(t T:String):Bool:=t==T || (t=="bool" && T=="int")
noncomputable def uw(T:String)(f:FD):FD:=fun δ=>(f δ).bind fun d=>match d with | .dct _ _=> .no | _=> .ok (.bl (qe (tyName d) T))
noncomputable def nList(f:FD):av→R (List D):=fun δ=>(f δ).bind fun d=>match d with | .lst ds=> .ok ds | .tup ds=> .ok ds | _=> .no
end
end L2
namespace L3
open PySem PySem.Spec PyProof.Rows L2
theorem cv{P:Program}{w:World}{K:PySem.W.Frag}{mg:Str→Option Value}{base:Heap}{cl:Nat→Addr}{x qual:Str}{st:Stmt}{f:Addr}{fd:FuncData}{N ps:List Str}{k:Nat}{F:FZ}{b:List Stmt}{sc:Scope}(hb:ai st=b)(hs:ae st=sc)(Fn:yc K x qual st f fd)(S:aY N ps sc)
 (hbody:∀(cdv:Value) (A:Around) (outer:List Env) (s:Shared) (H:Hp) (E:XK),eI k (A.deeper (envOfC qual sc s.heap.objs.size f cdv))→
   zo (qg qQ P w K mg base N qual sc f cdv A outer s H E).C9 cl b F):hJ P w K mg base qQ (k+1) f fd ps (Bt K cl ps.length (mi N F)):=by
 subst hb hs
 exact CY Fn S hbody
theorem aP.p{P:Program}{w:World}{K:PySem.W.Frag}{mg:Str→Option Value}{base:Heap}{cl:Nat→Addr}{k:Nat}{x:Str}{n:Nat}{N:List Str}{F:FZ}(C:aP P w K mg base cl k x n (mi N F)):aP P w K mg base cl k x n (n4 N F):=
 let⟨f,fd,ps,F,h⟩:=C;⟨f,fd,ps,F.imp fun _ _ _ _ h=>vT h,h⟩
noncomputable def Il(N:List Str)(F:FZ):List D→R D:=fun ds=>match n4 N F (ds.map .d) [] with
 | .ok (.d d) []=>R.bC d.atom (.ok d)
 | _=> .no
theorem Fy{K:PySem.W.Frag}{cl:Nat→Addr}{N:List Str}{F:FZ}{n:Nat}{vs:List V}{H:Hp}{Q:VK}{E:XK}(h:Bq K n (Il N F) vs H Q E):Bt K cl n (mi N F) vs H Q E:=by
 obtain⟨hl,B,ds,d,hb,r,hg,q⟩:=h
 unfold Il at hg
 split at hg
 ·rename_i d' e
  obtain⟨ha,h2⟩:=R.bj hg
  cases h2
  have r0:aF K (⟨[],[],[]⟩:P3).b H ds vs:=r.bp fun b o e _=>⟨e,by simp [P3.b]⟩
  refine vT ⟨hl,⟨[],[],[]⟩,[],ds.map .d, .d d,[],⟨rfl,fun i j a hi=>by simp at hi,fun k a o hk=>by simp at hk,fun b hb=>by simp at hb,fun k a hk=>by simp at hk,fun b hb=>by simp at hb,fun k a hk=>by simp at hk⟩,aC.of r0,e,fun u ρ' H' p w' r'=>q u H' (fun b o eb=>?_) ?_⟩
  ·exact(p.bp b o eb (by simp [P3.b])).1
  ·unfold br at r'
   exact r'.atom ha
 ·cases hg
section
variable {X:Cx} {cl:Nat→Addr}
theorem ui{g:List D→R D}{k j n:Nat}{x:Str}{p pos:Pos}{e:Expr}{es:List Expr}{fs:FA}(C:Callee X.prog X.w X.K X.mg X.base k x n g)(hr:eI j X.A)(hkj:k≤j)(hg:Gl X x)(ha:Dc X cl (e ::es) fs)
 (hn:∀δ S ds S',fs δ S= .ok ds S'→ds.length=n) (hdb:(x==("__debug__":Str))=false:=by decide) (he:starEach (e ::es) X.env=(false,eval e X.env) ::starEach es X.env:=by rfl) (hpl:(backTo pos (starEach es X.env)).any (·.1)=false:=by rfl) :
 PX X cl (.Call (.Name x p) (e ::es) [] pos) (s_ g fs):=by
 obtain⟨f,fd,ps,F,hm,hk,hb⟩:=C
 refine⟨(su F (hr.mono hkj) hg hm hk hb .nil vm ha.1 hdb he hpl).imp fun σ H Q ⟨ρ,S,δ,v,S',E,hf,q⟩=>?_⟩
 obtain⟨vs,S1,h1,h2⟩:=R3.ak hf
 split at h2
 ·rename_i ds e
  obtain⟨d,S2,h3,h4⟩:=R3.ak h2
  obtain⟨h5,e5⟩:=R3.of_ok h3
  cases h4
  subst e5
  refine⟨ρ,S,δ,vs,_,E,h1,fun us ρ1 H1 p1 w1 r1=>?_⟩
  have hl:=hn δ S vs _ h1
  rw[jl e] at r1
  show Bq X.K n g (us++[]) H1 Q E0
  rw[List.append_nil]
  exact⟨by rw[←r1.length,←jl e];exact hl,ρ1.b,ds,d,w1.bs,r1.to,h5,fun z H' s r=>q z ρ1 H' (p1.trans (Pre.same s)) (w1.same s) (by unfold br;exact r)⟩
 ·cases h2
noncomputable def Ja(f:FX):FA:=fun δ S=>(f δ S).bind fun v S=>match v with | .d (.tup ds)=> .ok (ds.map .d) S | .tup vs=> .ok vs S | _=> .no
end
end L3
end
section
set_option maxRecDepth 100000
set_option maxHeartbeats 4000000
namespace L3
open PySem PySem.Spec PyProof.Rows L2
noncomputable def W3{α:Type}(r:R3 α)(Q:α→aN→Prop):Prop:=∃a S,r= .ok a S∧Q a S
section
variable {α β:Type} {Q Q':α→aN→Prop} {S:aN} {δ:DE}
theorem W3.ok{a:α}(h:Q a S):W3 (.ok a S) Q:=⟨a,S,rfl,h⟩
theorem W3.bind{Q:β→aN→Prop}{r:R3 α}{f:α→aN→R3 β}(h:W3 r fun a S=>W3 (f a S) Q):W3 (r.bind f) Q:=by
 obtain⟨a,S1,e1,b,S2,h2,q⟩:=h
 exact⟨b,S2,by rw[e1];exact h2,q⟩
theorem W3.mono{r:R3 α}(h:W3 r Q)(m:∀a S,Q a S→Q' a S):W3 r Q':=let⟨a,S,e,q⟩:=h;⟨a,S,e,m a S q⟩
theorem W3.eq{r:R3 α}{a:α}{S':aN}(e:r= .ok a S')(h:Q a S'):W3 r Q:=⟨a,S',e,h⟩
theorem W3.wh{c:Bool}{r:R3 α}(hc:c=true)(h:W3 r Q):W3 (R3.bC c r) Q:=by rw[hc];exact h
theorem W3.of{r:R α}{a:α}(e:r= .ok a)(h:Q a S):W3 (R3.of r S) Q:=by rw[e];exact⟨a,S,rfl,h⟩
end
section
variable {S:aN} {δ:DE} {QV:V3→aN→Prop} {QB:Bool→aN→Prop} {QA:List V3→aN→Prop} {QO:Ou→aN→Prop}
theorem dP{f:FD}{d:D}(e:f (down δ)= .ok d)(h:QV (.d d) S):W3 (xP f δ S) QV:=W3.bind (W3.of e (W3.ok h))
theorem xc{f:FD}{d:D}(e:f (bX S δ)= .ok d)(ha:ka d=true)(h:QV (.d d) S):W3 (xT f δ S) QV:=W3.bind (W3.of e (W3.wh ha (W3.ok h)))
theorem Ct{f:av→R Bool}{b:Bool}(e:f (down δ)= .ok b)(h:QB b S):W3 (bP f δ S) QB:=W3.of e h
theorem HH{f:av→R Bool}{b:Bool}(e:f (bX S δ)= .ok b)(h:QB b S):W3 (bT f δ S) QB:=W3.of e h
theorem w_var{i:Nat}{v:V3}(e:δ[i]? =some (some v))(h:QV v S):W3 (cF i δ S) QV:=by unfold cF;rw [e];exact W3.ok h
theorem jn{f:av→R (List D)}{ds:List D}(e:f (down δ)= .ok ds)(h:QV (.loc S.length) (S++[.lst ds])):W3 (lH f δ S) QV:=W3.bind (W3.of e (W3.ok h))
theorem cJ(h:QA [] S):W3 (cR δ S) QA:=W3.ok h
theorem aG{f:FX}{g:FA}(h:W3 (f δ S) fun v S1=>W3 (g δ S1) fun vs S2=>QA (v ::vs) S2):W3 (aA f g δ S) QA:=W3.bind (h.mono fun _ _ h=>W3.bind (h.mono fun _ _ h=>W3.ok h))
theorem rj{g:FA}(h:W3 (g δ S) fun vs S1=>vs.length≤sizeLine∧QV (j5 vs) S1):W3 (uL g δ S) QV:=W3.bind (h.mono fun _ _ h=>W3.wh (decide_eq_true h.1) (W3.ok h.2))
theorem HP{g:FA}(h:W3 (g δ S) fun vs S1=>vs.length≤sizeLine∧QV (iu vs) S1):W3 (FH g δ S) QV:=W3.bind (h.mono fun _ _ h=>W3.wh (decide_eq_true h.1) (W3.ok h.2))
theorem DZ{g:D→D→R D}{fa fb:FX}(h:W3 (fa δ S) fun a S1=>W3 (fb δ S1) fun b S2=>∃x y d,a= .d x∧b= .d y∧g x y= .ok d∧QV (.d d) S2):W3 (x2 g fa fb δ S) QV:=
 W3.bind (h.mono fun _ _ h=>W3.bind (h.mono fun _ _ ⟨_,_,_,e1,e2,e3,q⟩=>by subst e1 e2;exact W3.bind (W3.of e3 (W3.ok q))))
theorem Fs{g:D→D→R D}{fa fb:FX}(h:W3 (fa δ S) fun a S1=>W3 (fb δ S1) fun b S2=>∃x y k,a= .d x∧b= .d y∧g x y= .ok (.bl k)∧QB k S2):W3 (GU g fa fb δ S) QB:=
 W3.bind (DZ (h.mono fun _ _ h=>h.mono fun _ _ ⟨x,y,k,e1,e2,e3,q⟩=>⟨x,y, .bl k,e1,e2,e3,W3.ok q⟩))
theorem CG{fa fb:FX}(h:W3 (fa δ S) fun a S1=>W3 (fb δ S1) fun b S2=>∃x y d,a= .d x∧b= .d y∧cb x y= .ok d∧QV (.d d) S2):W3 (GB fa fb δ S) QV:=
 W3.bind (h.mono fun _ _ h=>W3.bind (h.mono fun _ _ ⟨_,_,_,e1,e2,e3,q⟩=>by subst e1 e2;exact W3.bind (W3.of e3 (W3.ok q))))
theorem eD{g:List V3→aN→R3 V3}{fs:FA}(h:W3 (fs δ S) fun vs S1=>W3 (g vs S1) QV):W3 (dc g fs δ S) QV:=W3.bind h
theorem wY{g:List D→R D}{fs:FA}(h:W3 (fs δ S) fun vs S1=>∃ds d,vs=ds.map .d∧g ds= .ok d∧QV (.d d) S1):W3 (s_ g fs δ S) QV:=
 W3.bind (h.mono fun _ _ ⟨ds,_,e1,e2,q⟩=>by subst e1;rw [pO];exact W3.bind (W3.of e2 (W3.ok q)))
theorem EM{it:FA}{t:FG}{c:FB}{f:FX}{own:List Str}{kp:List Nat}(h:W3 (it δ S) fun vs S1=>vs.length≤sizeLine∧W3 (kQ t c f (gr own kp δ) vs S1) fun ys S2=>QV (iu ys) S2):W3 (kz it t c f own kp δ S) QV:=
 W3.bind (h.mono fun _ _ h=>W3.wh (decide_eq_true h.1) (W3.bind (h.2.mono fun _ _ h=>W3.ok h)))
theorem bu{F G:FZ}(h:W3 (F δ S) fun o S1=>∃δ1,o= .nx δ1∧W3 (G δ1 S1) QO):W3 (bN F G δ S) QO:=W3.bind (h.mono fun _ _ ⟨_,e,h⟩=>by subst e;exact h)
theorem ET{F G:FZ}(h:W3 (F δ S) fun o S1=>∃v,o= .rt v∧QO (.rt v) S1):W3 (bN F G δ S) QO:=W3.bind (h.mono fun _ _ ⟨_,e,h⟩=>by subst e;exact W3.ok h)
theorem bY{i:Nat}{f:FX}(hi:i < δ.length)(h:W3 (f δ S) fun v S1=>QO (.nx (δ.set i (some v))) S1):W3 (dh i f δ S) QO:=W3.bind (h.mono fun _ _ h=>W3.wh (decide_eq_true hi) (W3.ok h))
theorem gu{f:FX}(h:W3 (f δ S) fun v S1=>QO (.rt v) S1):W3 (iR f δ S) QO:=W3.bind (h.mono fun _ _ h=>W3.ok h)
theorem wz{c:FB}{F G:FZ}(h:W3 (c δ S) fun b S1=>if b then W3 (F δ S1) QO else W3 (G δ S1) QO):W3 (Dw c F G δ S) QO:=W3.bind (h.mono fun b _ h=>by cases b <;> exact h)
theorem ph(h:QO (.nx δ) S):W3 (ve δ S) QO:=W3.ok h
theorem k7{f:av→R (List D)}{ds:List D}(e:f (down δ)= .ok ds)(h:QA (ds.map .d) S):W3 (iP f δ S) QA:=W3.bind (W3.of e (W3.ok h))
theorem sF{f:FX}(h:W3 (f δ S) fun v S1=>∃n:Nat,v= .d (.int n)∧n < 1000000∧QA ((cc 0 n).map .d) S1):W3 (oy f δ S) QA:=W3.bind (h.mono fun _ _ ⟨n,e,hn,q⟩=>by
 subst e
 refine W3.wh (decide_eq_true ⟨by omega,by omega⟩) (W3.ok ?_)
 rw[Int.toNat_natCast];exact q)
theorem xU{f:FX}(h:W3 (f δ S) fun v S1=>∃ds,v= .d (.lst ds)∧QA (ds.map .d) S1):W3 (CW f δ S) QA:=W3.bind (h.mono fun _ _ ⟨n,e,q⟩=>by subst e;exact W3.ok q)
theorem gO{it:FA}{t:FG}{F:FZ}(h:W3 (it δ S) fun vs S1=>W3 (kE t F vs δ S1) QO):W3 (jM it t F δ S) QO:=W3.bind h
theorem kM{i k:Nat}{f:FX}(hk:δ[i]? =some (some (.loc k)))(h0:∃ds,S[k]? =some (.lst ds))(h:W3 (f δ S) fun v S1=>∃d ds,v= .d d∧S1[k]? =some (.lst ds)∧ds.length < sizeLine∧QO (.nx δ) (S1.set k (.lst (ds++[d])))):W3 (lg i f δ S) QO:=by
 obtain⟨es,h0⟩:=h0
 unfold lg
 have e1:fG δ i=some k:=by unfold fG;rw [hk]
 have e2:cG S k=some es:=by unfold cG;simp only[h0]
 rw[e1];show W3 (match cG S k with | none=>_ | some _=>_) _
 rw[e2]
 refine W3.bind (h.mono fun v S1 ⟨d,ds,e,h1,hl,q⟩=>?_)
 subst e
 have e3:cG S1 k=some ds:=by unfold cG;simp only[h1]
 show W3 (match cG S1 k with | some ds=>_ | none=>_) _
 rw[e3]
 exact W3.wh (decide_eq_true hl) (W3.ok q)
theorem Ef{fo fi fe:FX}(h:W3 (fe δ S) fun v S1=>W3 (fo δ S1) fun o S2=>W3 (fi δ S2) fun j S3=>∃d k n ds m,v= .d d∧o= .loc k∧j= .d (.int n)∧S3[k]? =some (.lst ds)∧pW ds.length n=some m∧QO (.nx δ) (S3.set k (.lst (ds.set m d)))):W3 (DD fo fi fe δ S) QO:=
 W3.bind (h.mono fun _ _ h=>W3.bind (h.mono fun _ _ h=>W3.bind (h.mono fun _ S3 ⟨d,k,n,ds,m,e1,e2,e3,h1,h2,q⟩=>by
  subst e1 e2 e3
  have e3:cG S3 k=some ds:=by unfold cG;simp only[h1]
  show W3 (match cG S3 k with | some ds=>_ | none=>_) _
  rw[e3]
  show W3 (match pW ds.length n with | some m=>_ | none=>_) _
  rw[h2]
  exact W3.ok q)))
theorem p8{t:FG}{body:FZ}:∀(vs:List V3) (n:Nat) (P:Nat→DE→aN→Prop) {δ:DE} {S:aN},P n δ S→
 (∀i v δ S,vs[i]? =some v→P (n+i) δ S→∃δ1,t v δ=some δ1∧W3 (body δ1 S) fun o S1=>∃δ2,o= .nx δ2∧P (n+i+1) δ2 S1)→W3 (kE t body vs δ S) fun o S1=>∃δ2,o= .nx δ2∧P (n+vs.length) δ2 S1
 | [],n,P,δ,S,h0,_=>W3.ok ⟨δ,rfl,h0⟩
 | v ::vs,n,P,δ,S,h0,hs=>by
   obtain⟨δ1,e1,o,S1,e2,δ2,rfl,p2⟩:=hs 0 v δ S rfl h0
   have ih:=p8 vs (n+1) P p2 (fun i v' δ' S' hi hp=>by
    have:=hs (i+1) v' δ' S' (by simpa using hi) (by rw[show n+(i+1)=n+1+i by omega];exact hp)
    rw[show n+(i+1)+1=n+1+i+1 by omega] at this
    exact this)
   rw[show n+1+vs.length=n+(v ::vs).length by rw[List.length_cons];omega] at ih
   unfold kE
   rw[e1]
   refine W3.bind ⟨_,_,e2,?_⟩
   exact ih
theorem cz{t:FG}{body:FZ}{vs:List V3}(P:Nat→DE→aN→Prop){δ:DE}{S:aN}(h0:P 0 δ S)
 (hs:∀i v δ S,vs[i]? =some v→P i δ S→∃δ1,t v δ=some δ1∧W3 (body δ1 S) fun o S1=>∃δ2,o= .nx δ2∧P (i+1) δ2 S1):W3 (kE t body vs δ S) fun o S1=>∃δ2,o= .nx δ2∧P vs.length δ2 S1:=by
 have:=p8 (t:=t) (body:=body) vs 0 P h0 (fun i v δ S hi hp=>by simpa using hs i v δ S hi (by simpa using hp))
 simpa using this
theorem qa{t:FG}{c:FB}{f:FX}{δ:DE}:∀(vs:List V3) (n:Nat) (P:Nat→List V3→aN→Prop) {ys:List V3} {S:aN},P n ys S→
 (∀i v ys S,vs[i]? =some v→P (n+i) ys S→∃δ1,t v δ=some δ1∧W3 (c δ1 S) fun b S1=>if b then W3 (f δ1 S1) fun y S2=>P (n+i+1) (ys++[y]) S2 else P (n+i+1) ys S1)→W3 (kQ t c f δ vs S) fun zs S1=>P (n+vs.length) (ys++zs) S1
 | [],n,P,ys,S,h0,_=>W3.ok (by rw[List.append_nil];exact h0)
 | v ::vs,n,P,ys,S,h0,hs=>by
   obtain⟨δ1,e1,b,S1,e2,h2⟩:=hs 0 v ys S rfl h0
   have ih:∀{ys' S'},P (n+1) ys' S'→W3 (kQ t c f δ vs S') fun zs S1=>P (n+(v ::vs).length) (ys'++zs) S1:=fun {ys' S'} p=>by
    have:=qa (t:=t) (c:=c) (f:=f) (δ:=δ) vs (n+1) P p (fun i v' ys' S' hi hp=>by
     have:=hs (i+1) v' ys' S' (by simpa using hi) (by rw[show n+(i+1)=n+1+i by omega];exact hp)
     rw[show n+(i+1)+1=n+1+i+1 by omega] at this
     exact this)
    rw[show n+1+vs.length=n+(v ::vs).length by rw[List.length_cons];omega] at this
    exact this
   unfold kQ
   rw[e1]
   refine W3.bind ⟨b,S1,e2,?_⟩
   cases b with
   | true=>
     rw[if_pos rfl] at h2 ⊢
     exact W3.bind (h2.mono fun y S2 p=>W3.bind ((ih p).mono fun zs S3 q=>W3.ok (by rw[List.append_assoc] at q;exact q)))
   | false=>rw [if_neg (by decide)] at h2 ⊢;exact ih h2
theorem y9{t:FG}{c:FB}{f:FX}{δ:DE}{vs:List V3}(P:Nat→List V3→aN→Prop){S:aN}(h0:P 0 [] S)
 (hs:∀i v ys S,vs[i]? =some v→P i ys S→∃δ1,t v δ=some δ1∧W3 (c δ1 S) fun b S1=>if b then W3 (f δ1 S1) fun y S2=>P (i+1) (ys++[y]) S2 else P (i+1) ys S1):W3 (kQ t c f δ vs S) fun zs S1=>P vs.length zs S1:=by
 have:=qa (t:=t) (c:=c) (f:=f) (δ:=δ) vs 0 P h0 (fun i v ys S hi hp=>by simpa using hs i v ys S hi (by simpa using hp))
 simpa using this
theorem uJ{QB:Bool→aN→Prop}(h:QB true S):W3 (wM δ S) QB:=W3.ok h
theorem vq{N:List Str}{F:FZ}{vs:List V3}{δ:DE}(e:bQ N vs=δ)(h:W3 (F δ S) fun o S1=>∃v,o= .rt v∧QV v S1):W3 (mi N F vs S) QV:=by
 subst e
 exact W3.bind (h.mono fun _ _ ⟨_,e,q⟩=>by subst e;exact W3.ok q)
noncomputable def JV(S:aN):Prop:=∀o∈S,∃ds,o=SO.lst ds
end
end L3
namespace L3
open PySem PySem.Spec PyProof.Rows L2
section
variable {S:aN} {δ:DE} {QV:V3→aN→Prop}
theorem kZ{it:FA}{t:FG}{c:FB}{f:FX}{own:List Str}{kp:List Nat}(P:Nat→List D→aN→Prop)(h:W3 (it δ S) fun vs S1=>vs.length≤sizeLine∧P 0 [] S1∧
 (∀i v ds S2,vs[i]? =some v→P i ds S2→∃δ1,t v (gr own kp δ)=some δ1∧W3 (c δ1 S2) fun b S3=>if b then W3 (f δ1 S3) fun y S4=>∃d,y= .d d∧P (i+1) (ds++[d]) S4 else P (i+1) ds S3)∧
 ∀ds S2,P vs.length ds S2→QV (.d (.lst ds)) S2):W3 (kz it t c f own kp δ S) QV:=by
 refine EM (h.mono fun vs S1 ⟨hl,h0,hs,hq⟩=>⟨hl,?_⟩)
 refine(y9 (fun i ys S=>∃ds,ys=ds.map V3.d∧P i ds S) ⟨[],rfl,h0⟩ ?_).mono fun zs S2 ⟨ds,e,p⟩=>?_
 ·rintro i v ys S2 hv ⟨ds,rfl,p⟩
  obtain⟨δ1,e1,h1⟩:=hs i v ds S2 hv p
  refine⟨δ1,e1,h1.mono fun b S3 h3=>?_⟩
  cases b with
  | true=>
    rw[if_pos rfl] at h3 ⊢
    exact h3.mono fun y S4 ⟨d,e,p⟩=>by subst e;exact⟨ds++[d],by simp,p⟩
  | false=>rw [if_neg (by decide)] at h3 ⊢;exact⟨ds,rfl,h3⟩
 ·subst e
  unfold iu
  rw[pO]
  exact hq ds S2 p
structure jw (n:Nat) (d:D):Prop where
 pl:fj d=true
 ly:(toPy d).canLay0=true
 dp:(toPy d).depth≤n
theorem jw.int(i:Int):jw 0 (.int i):=⟨by unfold fj;rfl,by unfold toPy PyData.canLay0;rfl,by unfold toPy PyData.depth;omega⟩
theorem jw.str{s:Str}(h:(PyData.str s).canLay0=true):jw 0 (.str s):=⟨by unfold fj;rfl,by unfold toPy;exact h,by unfold toPy PyData.depth;omega⟩
theorem jw.mono{n m:Nat}{d:D}(h:jw n d)(hm:n≤m):jw m d:=⟨h.pl,h.ly,Nat.le_trans h.dp hm⟩
theorem jw.all{n:Nat}:∀{ds:List D},(∀d∈ds,jw n d)→i5 ds=true∧PyData.canLayAll0 (gZ ds)=true∧PyData.depthAll (gZ ds)≤n
 | [],_=>⟨by unfold i5;rfl,by unfold gZ PyData.canLayAll0;rfl,by unfold gZ PyData.depthAll;omega⟩
 | d ::ds,h=>by
   obtain⟨h1,h2,h3⟩:=jw.all (ds:=ds) fun x hx=>h x (List.mem_cons_of_mem _ hx)
   have f:=h d List.mem_cons_self
   refine⟨by unfold i5;rw [f.pl,h1];rfl,by unfold gZ PyData.canLayAll0;rw [f.ly,h2];rfl,?_⟩
   unfold gZ PyData.depthAll
   have:=f.dp
   omega
theorem jw.lst{n:Nat}{ds:List D}(h:∀d∈ds,jw n d):jw (n+1) (.lst ds):=by
 obtain⟨h1,h2,h3⟩:=jw.all h
 exact⟨by unfold fj;exact h1,by unfold toPy PyData.canLay0;exact h2,by unfold toPy PyData.depth;omega⟩
theorem jw.tup{n:Nat}{ds:List D}(h:∀d∈ds,jw n d):jw (n+1) (.tup ds):=by
 obtain⟨h1,h2,h3⟩:=jw.all h
 exact⟨by unfold fj;exact h1,by unfold toPy PyData.canLay0;exact h2,by unfold toPy PyData.depth;omega⟩
theorem jw.sh{n:Nat}{d:D}(h:jw n d)(hn:n≤64):SeqAt.shaped (toPy d)=true:=by
 unfold SeqAt.shaped
 rw[h.ly,decide_eq_true (Nat.le_trans h.dp hn)]
 rfl
theorem EH{d e:List D}:DX (.lst d) (.lst e)=R.bC (fj (.lst d) && fj (.lst e) && SeqAt.shaped (toPy (.lst d)) && SeqAt.shaped (toPy (.lst e))) (.ok (PyData.eqv (toPy (.lst d)) (toPy (.lst e)))):=rfl
theorem AX{d e:List D}:DX (.tup d) (.tup e)=R.bC (fj (.tup d) && fj (.tup e) && SeqAt.shaped (toPy (.tup d)) && SeqAt.shaped (toPy (.tup e))) (.ok (PyData.eqv (toPy (.tup d)) (toPy (.tup e)))):=rfl
theorem jw.eqT{n:Nat}{ds:List D}(h:jw n (.tup ds))(hn:n≤64):DX (.tup ds) (.tup ds)= .ok true:=by
 rw[AX,h.pl,h.sh hn,SeqAt.eqv_refl _ h.ly]
 rfl
end
end L3
namespace L3
open PySem PySem.Spec PyProof.Rows L2
end L3
end
section
set_option maxRecDepth 100000
set_option maxHeartbeats 4000000
namespace L2
open PySem PySem.Spec PyProof.Rows
section
variable {X:Cx}
noncomputable def Em:D→Bool | .dk=>true | _=>false
noncomputable def L7(d e:D):R D:=match e with | .dk=> .ok (.bl (Em d)) | _=> .no
noncomputable def Ll(d e:D):R D:=match e with | .dk=> .ok (.bl (!Em d)) | _=> .no
theorem yo:kq X (.type "int") (fun xs H Q=>∃x n,xs=[.str x]∧PySem.intText? x=some n∧x.length≤640∧Q (.int n) H):=by
 intro pins s σ H xs us Q I r h
 obtain⟨x,n,rfl,h1,h2,q⟩:=h
 obtain⟨u,rfl,ru⟩:=vals1 r
 obtain⟨t,rfl⟩:=ru
 exact PySem.W.KIN.call_text h1 h2 ⟨.int n,H,I.tok _,⟨_,rfl⟩,q⟩
noncomputable def AI:List D→R D
 | [.str x]=>R.bC (decide (x.length≤640)) (match PySem.intText? x with | some n=> .ok (.int n) | none=> .no)
 | _=> .no
theorem Gh:cZ X (.type "int") AI:=cZ.of yo fun B H ds d xs Q _ rs hg q=>by
 unfold AI at hg
 split at hg
 ·obtain⟨h1,h2⟩:=R.bj hg
  split at h2
  ·rename_i e
   cases h2
   obtain⟨x,rfl,r⟩:=rs.one
   exact⟨_,_,by rw[Rep.str.mp r],e,of_decide_eq_true h1,q _ H (aQ.refl H) (Rep.int.mpr rfl)⟩
  ·cases h2
 ·cases hg
noncomputable def pJ(ds:List D):R D:=match ds with | [.str _]=>AI ds | _=>cInt ds
theorem sJ:cZ X (.type "int") pJ:=cZ.or Gh Ia fun a d h=>by
 unfold pJ at h
 split at h
 ·exact .inl h
 ·exact .inr h
noncomputable def Ep(f:FD):FD:=fun δ=>(f δ).bind fun d=>match d with | .int i=> .ok (.int (-i)) | _=> .no
theorem xY{a:Expr}{f:FD}{pos:Pos}(h:QD X a f):QD X (.UnaryOp .USub a pos) (Ep f):=⟨(G5 FE h.1).imp fun σ H Q ⟨Z,B,δ,d,E,hf,q⟩=>by
 obtain⟨d1,h1,h2⟩:=R.ak hf
 split at h2
 ·cases h2
  exact⟨Z,B,δ,_,E,h1,fun v H1 s1 r1=>⟨_,Rep.int.mp r1,q _ H1 s1 (Rep.int.mpr rfl)⟩⟩
 ·cases h2⟩
noncomputable def ym(d:D)(ds:List D):R D:=match d,ds with
 | .str x,[.str y]=> .ok (.int (Txt.find x y))
 | _,_=> .no
theorem m_find:Ik X "str.find" ym:=by
 intro pins s σ H B da d ds x xs v us I hb rx rxs ra rs hg
 unfold ym at hg
 split at hg
 ·cases hg
  rw[Rep.str.mp ra] at rx
  obtain⟨t,rfl⟩:=rx
  obtain⟨y,rfl,r⟩:=rs.one
  rw[Rep.str.mp r] at rxs
  obtain⟨u,rfl,ru⟩:=vals1 rxs
  obtain⟨t2,rfl⟩:=ru
  exact PySem.SC.find ⟨.int _,H,I.tok _,⟨_,rfl⟩,aQ.refl H,Rep.int.mpr rfl⟩
 ·cases hg
theorem Bw{o e:Expr}{f:FD}{fs:av→R (List D)}{apos cpos:Pos}(ho:QD X o f)(ha:Ck X [e] fs)
 (hbase:attributeBase o "find" X.env (eval o X.env)=eval o X.env:=by rfl)
 (hfew:((backTo cpos (starEach [e] X.env)).all (fun x=>!x.1) && (backToKw cpos (keywordEach [] X.env)).all (fun x=>x.1.isSome)
   && decide (([e]:List Expr).length+([]:List Keyword).length+(if([]:List Keyword).isEmpty then 0 else 1) < 30))=true:=by rfl)
 (hline:(apos.endLine==cpos.line)=true:=by rfl) (hs:starEach [e] X.env=(false,eval e X.env) ::starEach [] X.env:=by rfl) :
 QD X (.Call (.Attribute o "find" apos) [e] [] cpos) (y6 "str" ym f fs):=⟨Hr F.plainAttrs_str F.slot_str_find F.type_str_find m_find ho.1 ha.1 (.inl rfl) hbase hfew hline hs⟩
noncomputable def LS(kvs:List (Str × Str)):D:= .dct (kvs.map fun p=>Sum.inr p.1) (kvs.map fun p=> .str p.2)
noncomputable def Mc(kvs:List (Str × Str)):List (Key × V):=kvs.map fun p=>((Sum.inr p.1:Key),V.str p.2)
noncomputable def KH(d k:D):R D:=match d,k with
 | .dct ks ds, .str x=>(match (ks.zip ds).find? fun p=>decide (p.1=Sum.inr x) with | some p=> .ok p.2 | none=> .no)
 | _,_=> .no
end
theorem GP{P:Program}{w:World}{K:PySem.W.Frag}{mg:Str→Option Value}{base:Heap}{k n:Nat}{f:Addr}{fd:FuncData}{ps:List Str}:hJ P w K mg base qQ k f fd ps (Bq K n fun _=> .no):=
 ⟨fun vs H Q E h=>(by obtain⟨_,_,_,_,_,_,h,_⟩:=h;cases h),fun A outer s H args us vs Q E _ _ _ _ h=>(by obtain⟨_,_,_,_,_,_,h,_⟩:=h;cases h)⟩
end L2
namespace L3
open PySem PySem.Spec PyProof.Rows L2
section
variable {X:Cx} {cl:Nat→Addr}
noncomputable def JR(f:FX):FB:=fun δ S=>(f δ S).bind fun v S=>match v with | .d (.bl b)=> .ok b S | _=> .no
noncomputable def Lx(f g:FX):FX:=fun δ S=>(JR f δ S).bind fun b S=>if b then g δ S else .ok (.d (.bl false)) S
noncomputable def Md(f g:FX):FX:=fun δ S=>(JR f δ S).bind fun b S=>if b then .ok (.d (.bl true)) S else g δ S
noncomputable def AA(i:Nat)(F:FZ):FZ:=fun δ S=>match fG δ i with
 | some k=>(match cG S k with | some ds=>F (δ.set i (some (.d (.lst ds)))) (S.set k .iF) | none=> .no)
 | none=> .no
theorem DB(i:Nat){sts:List Stmt}{F:FZ}(h:zo X cl sts F):zo X cl sts (AA i F):=⟨h.1.imp fun D σ H ⟨ρ,S,δ,o,S',E,hf,q⟩=>by
 unfold AA at hf
 split at hf
 ·rename_i k hk
  split at hf
  ·rename_i ds hds
   obtain⟨v,v1,v2⟩:=E.val i _ (md hk)
   unfold br at v2
   obtain⟨a,a1,rfl⟩:=v2
   obtain⟨w,p,r⟩:=E.sw.iF a1 (gB hds)
   have E1:fk X.K cl ⟨ρ.r,ρ.z,a ::ρ.f⟩ H (S.set k .iF) σ (δ.set i (some (.d (.lst ds)))):=⟨by rw[List.length_set];exact E.len,w,fun j d e=>by
    by_cases h:i=j
    ·subst h
     rw[List.getElem?_set_self (by obtain⟨h1,_⟩:=List.getElem?_eq_some_iff.mp (md hk);exact h1)] at e
     cases e
     exact⟨_,v1,by unfold br;exact r⟩
    ·rw[List.getElem?_set_ne h] at e
     obtain⟨u,u1,u2⟩:=E.val j d e
     exact⟨u,u1,u2.pre p⟩⟩
   exact⟨_,_,_,o,S',E1,hf,q.pre p⟩
  ·cases hf
 ·cases hf⟩
theorem HV{i k:Nat}{ds:List D}{F:FZ}{δ:DE}{S:aN}{QO:Ou→aN→Prop}(hk:δ[i]? =some (some (.loc k)))(hS:S[k]? =some (.lst ds))(h:W3 (F (δ.set i (some (.d (.lst ds)))) (S.set k .iF)) QO):W3 (AA i F δ S) QO:=by
 unfold AA
 have e1:fG δ i=some k:=by unfold fG;rw [hk]
 have e2:cG S k=some ds:=by unfold cG;simp only[hS]
 simp only[e1,e2]
 exact h
end
noncomputable def Flat(S:aN):Prop:=∀o∈S,∀n,oQ n o=true
theorem Flat.all{S:aN}(h:Flat S)(n:Nat):(S.take n).all (oQ n)=true:=List.all_eq_true.mpr fun o ho=>h o (List.mem_of_mem_take ho) n
theorem Flat.set{S:aN}(h:Flat S)(k:Nat){x:SO}(hx:∀n,oQ n x=true):Flat (S.set k x):=fun o ho=>by
 rcases List.mem_or_eq_of_mem_set ho with z | z
 ·exact h o z
 ·rw[z];exact hx
theorem Flat.push{S:aN}(h:Flat S){x:SO}(hx:∀n,oQ n x=true):Flat (S++[x]):=fun o ho=>by
 rcases List.mem_append.mp ho with z | z
 ·exact h o z
 ·rw[List.mem_singleton.mp z];exact hx
theorem Flat.take{S:aN}(h:Flat S)(n:Nat):Flat (S.take n):=fun o ho=>h o (List.mem_of_mem_take ho)
theorem Flat.nil:Flat []:=fun o ho=>by cases ho
theorem tM{N:List Str}{F:FZ}{vs:List V3}{S:aN}{QV:V3→aN→Prop}(h:W3 (mi N F vs S) fun v S1=>Flat S1∧eO S.length v=true∧∃d,res S1 v=some d∧QV (.d d) (S1.take S.length)):W3 (n4 N F vs S) QV:=
 W3.bind (h.mono fun v S1 ⟨hl,hg,d,e,q⟩=>by
  rw[e]
  exact W3.wh (by rw[hl.all,hg];rfl) (W3.ok q))
end L3
end
section
set_option maxRecDepth 100000
set_option maxHeartbeats 4000000
namespace PySem
open Sem (wp)
open AutoSeq1 (wpAny_loadPart')
section
variable {prog:Program} {w:World} {A:Around} {E:Value→Shared→Prop} {s:Shared}
end
end PySem
namespace L2
open PySem PySem.Spec PyProof.Rows
section
variable {X:Cx}
noncomputable def Ie(f:FD):FD:=fun δ=>(f δ).bind fun d=>match d with
 | .int j=>R.bC (decide (-(2 ^ 62)≤j∧j < 16777216)) (.ok (.tup (cc 0 j.toNat)))
 | _=> .no
theorem wW{n:Nat}{acc:Array Value}(h:ItemsOf (fun i v=>∃t,v=Value.int (0+(i:Int)*1) t) acc n):Vals ((List.range n).map fun(i:Nat)=>V.int (0+(i:Int))) acc.toList:=by
 obtain⟨hl,h⟩:=h
 have gen:∀(l:List Value) (m:Nat),(∀j v,l[j]? =some v→∃t,v=Value.int (((m+j:Nat):Int)) t)→Vals ((List.range' m l.length).map fun(i:Nat)=>V.int (0+(i:Int))) l:=by
  intro l
  induction l with
  | nil=>intro m _;exact .nil
  | cons x l ih=>
    intro m hv
    rw[List.length_cons,List.range'_succ,List.map_cons]
    obtain⟨t,e⟩:=hv 0 x rfl
    refine .cons ⟨t,by rw[e];simp⟩ (ih (m+1) fun j v hj=>?_)
    obtain⟨t,e⟩:=hv (j+1) v (by simpa using hj)
    exact⟨t,by rw[e];congr 1;omega⟩
 have:=gen acc.toList 0 fun j v hj=>by
  obtain⟨t,e⟩:=h j v (by rw[←hj];simp)
  exact⟨t,by rw[e];congr 1;omega⟩
 rw[←hl,List.range_eq_range']
 simpa using this
theorem tY{K:PySem.W.Frag}{B:List Addr}{H:Hp}:∀l:List Nat,aF K B H (l.map fun(i:Nat)=>D.int (0+(i:Int))) (l.map fun(i:Nat)=>V.int (0+(i:Int)))
 | []=>aF.nil
 | i ::l=>aF.cons (Rep.int.mpr rfl) (tY l)
end
end L2
end
section
set_option maxRecDepth 100000
set_option maxHeartbeats 4000000
namespace PySem
open Sem (wp)
open AutoSeq1 (wpAny_loadPart')
section
variable {prog:Program} {w:World} {A:Around} {E:Value→Shared→Prop} {s:Shared}
theorem j8{it l:Addr}{i:Nat}{items:Array Value}{x:Value}{Q:Value→Shared→Prop}(hit:s.heap.IsTupleIter it l i)(hl:s.heap.IsTuple l items)(hx:items[i]? =some x)
 (hQ:∀h',h'.IsTupleIter it l (i+1)→Heap.SameBut it s.heap h'→Q x {s with heap:=h'}):wpAny (model prog w) A (Builtin.SmallTypes.nextOf (.ref it)) Q E s:=by
 obtain⟨o,ho,hc,hd⟩:=id hit;obtain⟨ol,hol,_,nl,hdl⟩:=hl
 unfold Builtin.SmallTypes.nextOf
 refine wpAny_bind (wpAny_callSpecial?_slot (name:=Str.ofString "__next__") hit.typeIs F.slot_tuple_iterator_next (wpAny_call_entry F.slot_tuple_iterator_next hit.typeIs F.entry_tuple_iterator_next ?_ (F.args_tuple_iterator_next_1 _)))
 show wpAny _ _ (field (.ref it) 0 >>=_) _ _ s;refine wpAny_bind (wpAny_field ho hd (x:= .ref l) rfl ?_)
 show wpAny _ _ (if(Value.ref l==Value.none)=true then _ else _) _ _ s;rw [if_neg (show ¬((Value.ref l==Value.none)=true) from Bool.false_ne_true)]
 show wpAny _ _ (field (.ref it) 1 >>=_) _ _ s;refine wpAny_bind (wpAny_field ho hd (x:= .int i 0) rfl ?_)
 show wpAny _ _ (seqItems? (.ref l) >>=_) _ _ s;refine wpAny_bind (wpAny_seqItems hol hdl ?_)
 simp only[Int.toNat_natCast,hx]
 refine wpAny_bind (wpAny_setField ho hd (by simp) (wpAny_pure ⟨x,rfl,wpAny_pure (hQ _ ⟨_,Heap.get?_update_self _ ho (Obj.isFreed_of_fields (Obj.data_mapFields hd _)),(Obj.cls_mapFields ..).trans hc,by rw[Obj.data_mapFields hd];simp [rawInt]⟩ (Heap.SameBut.update ..))⟩))
theorem iK{it l:Addr}{i:Nat}{items:Array Value}{Q:Value→Shared→Prop}(hh:A.handled=none)(hit:s.heap.IsTupleIter it l i)(hl:s.heap.IsTuple l items)(hx:items[i]? =none)
 (hE:∀h' e,Heap.ExtBut it s.heap h'→(∃o,h'.get? e=some o∧o.cls= .type "StopIteration")→E (.ref e) {s with heap:=h'}):wpAny (model prog w) A (Builtin.SmallTypes.nextOf (.ref it)) Q E s:=by
 obtain⟨o,ho,hc,hd⟩:=id hit;obtain⟨ol,hol,_,nl,hdl⟩:=hl
 unfold Builtin.SmallTypes.nextOf
 refine wpAny_bind (wpAny_callSpecial?_slot (name:=Str.ofString "__next__") hit.typeIs F.slot_tuple_iterator_next (wpAny_call_entry F.slot_tuple_iterator_next hit.typeIs F.entry_tuple_iterator_next ?_ (F.args_tuple_iterator_next_1 _)))
 show wpAny _ _ (field (.ref it) 0 >>=_) _ _ s;refine wpAny_bind (wpAny_field ho hd (x:= .ref l) rfl ?_)
 show wpAny _ _ (if(Value.ref l==Value.none)=true then _ else _) _ _ s;rw [if_neg (show ¬((Value.ref l==Value.none)=true) from Bool.false_ne_true)]
 show wpAny _ _ (field (.ref it) 1 >>=_) _ _ s;refine wpAny_bind (wpAny_field ho hd (x:= .int i 0) rfl ?_)
 show wpAny _ _ (seqItems? (.ref l) >>=_) _ _ s;refine wpAny_bind (wpAny_seqItems hol hdl ?_)
 simp only[Int.toNat_natCast,hx]
 refine wpAny_bind (wpAny_rule (wpAny_bind (wpAny_setField ho hd (by simp) ?_)))
 show wpAny _ _ (newExc (.type "StopIteration") [] >>=_) _ _ _;refine wpAny_bind ?_;simp only[newExc,newTuple]
 refine wpAny_bind (wpAny_newObj_type ?_ (by size_fits))
 refine wpAny_bind (m:=firstArgMember _ _) (wpAny_of_eq (a:=Value.none) (by first | rfl | (simp only[firstArgMember];rfl)) ?_);refine wpAny_newObj_type ?_ (by size_fits)
 simp only[raiseNew];refine wpAny_bind (wpAny_handled ?_)
 first | rw[show A.in1.handled=none from hh] | rw[hh]
 exact wpAny_bind (wpAny_pure (wpAny_throw (hE _ _ (((Heap.SameBut.update ..).extBut.push _).push _) ⟨_,Heap.get?_push_size _ rfl,rfl⟩)))
end
theorem yN{prog:Program}{w:World}{A:Around}(hh:A.handled=none)(it l:Addr)(hne:l≠it)(items:Array Value) :
 Draws prog w A it [it,l] items.size (fun i v=>items[i]? =some v) (fun i h=>h.IsTupleIter it l i∧h.IsTuple l items) where
 live:=fun _ _ st=>let⟨o,ho,_⟩:=st.1;⟨o,ho⟩
 frame:=fun _ _ _ st hk=>⟨st.1.at fun o e=>hk it (by simp) o e,Heap.IsTuple.at st.2 fun o e=>hk l (by simp) o e⟩
 item:=fun i s Q E hi st hQ=>j8 st.1 st.2 (x:=items[i]) (by simp [hi]) fun h' hit' hs'=>hQ _ h' s.toks (by simp [hi]) ⟨hit',st.2.extBut hs'.extBut hne⟩ hs'
 done:=fun s Q E st hE=>iK hh st.1 st.2 (by simp) hE
theorem oE(l:Addr)(items:Array Value)(o:Obj)(n:Nat)(hc:o.cls= .type "tuple")(hd:o.data= .seq items n) :
 Meets (Builtin.«enumerate.__new__» ⟨[.type "enumerate", .ref l],[]⟩) (fun _ R s=>s.heap.get? l=some o∧
  R (.ok (.ret (.ref (s.heap.push {cls:= .type "tuple_iterator",data:= .fields #[.ref l, .int 0 0]}).objs.size)))
   {s with heap:=(s.heap.push {cls:= .type "tuple_iterator",data:= .fields #[.ref l, .int 0 0]}).push {cls:= .type "enumerate",data:= .fields #[.none, .bool false, .ref s.heap.objs.size,rawInt 0, .none, .none]}}):=
 .of_wp fun prog w A R s h=>by
  obtain⟨hp,g,d,tk,os⟩:=s;obtain⟨hl,h⟩:=h
  have hsub:=sub_enumerate
  have hL:Heap.IsTuple (Shared.heap ⟨hp,g,d,tk,os⟩) l items:=⟨_,hl,hc,n,hd⟩
  wp_walk using wpAny_loadPart' hl
  refine wpAny_stack_any fun st=>wpAny_pure ?_
  split
  ·rename_i c _ _ _ _ _
   cases(c==Value.type "enumerate") <;> (wp_walk using wpAny_loadPart' hl,wpAny_pyIter_tuple hL;exact⟨_,rfl,h⟩)
  ·wp_walk using wpAny_loadPart' hl,wpAny_pyIter_tuple hL
   exact⟨_,rfl,h⟩
theorem v8{prog:Program}{w:World}{A:Around}{E:Value→Shared→Prop}{s:Shared}{l:Addr}{items:Array Value}{Q:Value→Shared→Prop}(hL:s.heap.IsTuple l items)
 (h:∀h':Heap,IsEnum h' (s.heap.objs.size+1) s.heap.objs.size 0 .none→h'.IsTupleIter s.heap.objs.size l 0→(∀b o,s.heap.get? b=some o→h'.get? b=some o)→Q (.ref (s.heap.objs.size+1)) {s with heap:=h'}) :
 wpAny (model prog w) A (call (.type "enumerate") [.ref l]) Q E s:=by
 obtain⟨o,hl,hc,n,hd⟩:=hL
 refine callType_new F.called_enumerate (by decide) (F.typeCall_enumerate_1 _) (F.newCall_enumerate_1 _) (fun obj=>F.args_object_init_2 obj _) F.entry_enumerate_new (oE l items o n hc hd) ⟨hl,?_⟩
 have hz:(s.heap.push {cls:= .type "tuple_iterator",data:= .fields #[.ref l, .int 0 0]}).objs.size=s.heap.objs.size+1:=Heap.size_push ..
 show _∧_;rw [hz]
 have he:IsEnum ((s.heap.push {cls:= .type "tuple_iterator",data:= .fields #[.ref l, .int 0 0]}).push {cls:= .type "enumerate",data:= .fields #[.none, .bool false, .ref s.heap.objs.size,rawInt 0, .none, .none]}) (s.heap.objs.size+1) s.heap.objs.size 0 .none:=by
  have:=Heap.get?_push_size (s.heap.push {cls:= .type "tuple_iterator",data:= .fields #[.ref l, .int 0 0]}) (o:={cls:= .type "enumerate",data:= .fields #[.none, .bool false, .ref s.heap.objs.size,rawInt 0, .none, .none]}) rfl
  rw[hz] at this;exact this
 exact⟨⟨_,he,rfl⟩,h _ he ⟨_,Heap.get?_push_of_some _ (Heap.get?_push_size _ rfl),rfl,rfl⟩ fun b o x=>Heap.get?_push_of_some _ (Heap.get?_push_of_some _ x)⟩
end PySem
namespace L2
open PySem PySem.Spec PyProof.Rows
noncomputable def JN(K:PySem.W.Frag)(a:Addr):It:=
 ⟨fun i H=>∃xs x,oO K H a xs∧xs[i]? =some x,fun i H v H'=>∃p x,H p=none∧v= .ref p∧(∀xs,oO K H a xs→xs[i]? =some x)∧H'=upd H p (.tup [.int i,x]),fun i H=>∃xs,oO K H a xs∧xs.length≤i⟩
theorem vz{P:Program}{w:World}{K:PySem.W.Frag}{elts:List Expr}{k:Nat}{pos:Pos}(a e it:Addr)(hei:e≠it):Turn P w K (.Tuple elts k pos) (JN K a) [e,it] e (fun i h=>(∃old,IsEnum h e it ((i:Nat):Int) old)∧h.IsTupleIter it a i) where
 mem:=by simp
 obj:=fun i h st b hb=>by
  obtain⟨⟨old,he⟩,o,ho,c,d⟩:=st
  rcases List.mem_cons.mp hb with rfl | hb
  ·exact⟨_,he,fun v z=>by cases z⟩
  ·have e:b=it:=by simpa using hb
   subst e
   exact⟨o,ho,fun v z=>by rw[d] at z;cases z⟩
 keep:=fun i h h' st k=>by
  obtain⟨⟨old,he⟩,hi⟩:=st
  exact⟨⟨old,k e (by simp) _ he⟩,hi.at fun o x=>k it (by simp) o x⟩
 item:=by
  intro X hP hw hK hc i pins s σ H E I hf st hg
  subst hP hw hK
  obtain⟨xs,x,hq,hx⟩:=hg
  obtain⟨its,rv,p,hz⟩:=I.tuple hq
  have p':s.heap.IsTuple a its.toArray:=p
  obtain⟨u,hu,ru⟩:=rv.get hx
  obtain⟨⟨old,he⟩,hit⟩:=st
  obtain⟨f0,f1,f2,f3,f4,f5⟩:=hf e (by simp)
  obtain⟨g0,g1,g2,g3,g4,g5⟩:=hf it (by simp)
  have ha_it:a≠it:=fun z=>by
   obtain⟨o1,h1,c1,_⟩:=p'
   obtain⟨o2,h2,c2,_⟩:=hit
   rw[z,h2] at h1;cases h1
   rw[c2] at c1;exact absurd c1 (by decide)
  have ha_e:e ∉ [it,a]:=fun z=>by
   rcases List.mem_cons.mp z with q | q
   ·exact hei q
   ·have q:e=a:=by simpa using q
    obtain⟨o1,h1,c1,_⟩:=p'
    rw[←q,he] at h1;cases h1
    exact absurd (show Value.type "enumerate"=Value.type "tuple" from c1) (by decide)
  refine wpAny_pyNext_enum_itemD (yN (A:=X.A.in1) (I.ok.hd hc) it a ha_it its.toArray) he ⟨hit,p'⟩ (by have:=(List.getElem?_eq_some_iff.mp hu).1;simpa using this) hei ha_e fun u2 h₁ tk hu2 heo st₁ ht₁ hz₁ hk₁=>⟨_,rfl,?_⟩
  obtain rfl:u2=u:=by
   have h1:its[i]? =some u2:=by simpa using hu2
   rw[hu] at h1;cases h1;rfl
  obtain⟨hit₁,_⟩:=st₁
  refine wpAny_letOwnedTupleGo_enum heo fun h₂ he₂ hs₂=>?_
  replace hs₂:Heap.SameBut e h₁ h₂:=hs₂
  have hel:e < s.heap.objs.size:=Heap.lt_size he
  have ht₂:h₂.get? s.heap.objs.size=some {cls:= .type "tuple",data:= .seq #[.int i tk,u2]}:=(hs₂.2 _ (Nat.ne_of_gt hel)).trans ht₁
  have kk:∀b o,b≠e→b≠it→s.heap.get? b=some o→h₂.get? b=some o:=fun b o h1 h2 q=>(hs₂.2 b h1).trans (hk₁ b o h1 h2 q)
  have hn:H s.heap.objs.size=none:=I.fresh
  have sm:aQ H (upd H s.heap.objs.size (.tup [.int i,x])):=bo hn
  have nit:∀b o,H b=some o→b≠e∧b≠it:=fun b o q=>⟨fun z=>(by rw[z,f0] at q;cases q),fun z=>(by rw[z,g0] at q;cases q)⟩
  have hok:lr X.prog X.w (upd H s.heap.objs.size (.tup [.int i,x])) h₂:=fun b ob q=>by
   by_cases hb:b=s.heap.objs.size
   ·subst hb
    rw[bc] at q
    cases q
    exact⟨by show 2≤sizeLine;decide,[.int i tk,u2], .cons ⟨_,rfl⟩ (.cons ru .nil),⟨_,ht₂,rfl,_,rfl⟩⟩
   ·rw[ba hb] at q
    refine(I.hok b ob q).sM (fun c v hc z=>?_) (fun c z=>sm c _ z) fun c ys z=>sm c _ z
    rcases hc with rfl | hc
    ·exact kk c v (nit c _ q).1 (nit c _ q).2 z
    ·exact kk c v (nit c _ hc).1 (nit c _ hc).2 z
  have nch:∀b,b ∉ [e,it]→b≠e∧b≠it:=fun b hb=>⟨fun z=>hb (by simp [z]),fun z=>hb (by simp [z])⟩
  have I2:Inv X pins σ (upd H s.heap.objs.size (.tup [.int i,x])) {s with heap:=h₂,toks:=tk+1}:=by
   refine I.step (g':=s.gens) (d':=s.drawn) (ch:=[e,it]) (fun b hb=>?_) (fun b o _ _ hb q _=>kk b o (nch b hb).1 (nch b hb).2 q) (fun b o _ _ hb q _=>⟨o.slots,kk b o (nch b hb).1 (nch b hb).2 q⟩)
    (fun b o hb q n=>by rw[ba (Nat.ne_of_lt (Heap.lt_size q))];exact n) (fun b o hb q=>⟨o,kk b o (nch b hb).1 (nch b hb).2 q⟩) (fun b ys z=>sm b _ z) (fun b o u z=>sm b _ z) (fun b ps z=>⟨#[],by rw[sm b _ z];simp⟩) (fun m hm=>?_) hok I.bare
   ·rcases List.mem_cons.mp hb with rfl | hb
    ·exact⟨f3,f1,f4,f5⟩
    ·have z:b=it:=by simpa using hb
     subst z
     exact⟨g3,g1,g4,g5⟩
   ·obtain⟨o,es,ep,ho,r⟩:=hm
    exact⟨o,es,ep,kk _ o (Ne.symm f1) (Ne.symm g1) ho,r⟩
  refine⟨.ref s.heap.objs.size,_,I2,rfl,⟨s.heap.objs.size,x,hn,rfl,fun ys hy=>(by rw[I.nO hy hq];exact hx),rfl⟩,⟨⟨_,by simpa using he₂⟩,hit₁.at fun o q=>(hs₂.2 it (Ne.symm hei)).trans q⟩,fun b hb=>?_⟩
  rcases List.mem_cons.mp hb with rfl | hb
  ·rw[ba (Nat.ne_of_lt hel)];exact f0
  ·have z:b=it:=by simpa using hb
   subst z
   obtain⟨o,ho,_⟩:=hit
   rw[ba (Nat.ne_of_lt (Heap.lt_size ho))];exact g0
 done:=by
  intro X hP hw hK hc i pins s σ H E I hf st hg
  subst hP hw hK
  obtain⟨xs,hq,hx⟩:=hg
  obtain⟨its,rv,p,hz⟩:=I.tuple hq
  have p':s.heap.IsTuple a its.toArray:=p
  obtain⟨⟨old,he⟩,hit⟩:=st
  obtain⟨g0,g1,g2,g3,g4,g5⟩:=hf it (by simp)
  have hl:=rv.length
  have hT:s.TypeIs (.ref e) "enumerate":=⟨_,he,rfl⟩
  unfold pyNext
  refine wpAny_bind (wpAny_attempt (wpAny_callSpecial?_slot (name:=Str.ofString "__next__") hT F.slot_enumerate_next (wpAny_call_entry F.slot_enumerate_next hT F.entry_enumerate_next ?_ (F.args_enumerate_next_1 _))))
  show wpAny _ _ (field (.ref e) 2 >>=_) _ _ _;refine wpAny_bind (wpAny_field he rfl (x:= .ref it) rfl ?_)
  refine wpAny_bind (iK (A:=X.A.in1) (I.ok.hd hc) hit p' (by simp;omega) fun h' x he' hx'=>?_)
  obtain⟨o,ho,hcl⟩:=hx'
  refine wpAny_bind (wpAny_isInstance (T:="StopIteration") (b:=true) ⟨o,ho,hcl⟩ isSubtype_stop ?_)
  exact wpAny_pure ⟨rfl,I.turned (t':=s.toks) (fun b o hb q=>he' b o hb q) g0 g1 g3 g4 g5⟩
 self:=fun A i s Q E st h=>let⟨⟨_,he⟩,_⟩:=st;wpAny_pyIter_enum he h
section
variable {X:Cx}
noncomputable def sH(f:FD):av→R (List D):=fun δ=>(f δ).bind fun d=>match d with | .tup ds=> .ok (dO ds) | _=> .no
theorem vB{elts:List Expr}{k:Nat}{tpos:Pos}{a:Expr}{f:FD}{p pos:Pos}(h:QD X a f)(hg:Gl X "enumerate")(hm:X.mg "enumerate"=none)(hs:starEach [a] X.env=[(false,eval a X.env)]:=by rfl):w_ X (.Tuple elts k tpos) (.Call (.Name "enumerate" p) [a] [] pos) (sH f):=by
 refine⟨?_⟩
 intro pins s σ H RR I ⟨Z,B,δ,ds,E,hf,q⟩
 obtain⟨d,h1,h2⟩:=R.ak hf
 have hA:=gJ h.1 jf hs pos pins s σ H (fun vs H1=>aQ H H1∧∃v,vs=[v]∧Rep X.K B H1 d v) I ⟨Z,B,δ,d,E,h1,fun v H1 s1 r1=>⟨s1,v,rfl,r1⟩⟩
 refine Call_ (j0 I hg hm boot_enumerate (PyProof.Rows.callWith_type1 (d5 hA fun us s1 ⟨vs,H1,I1,r1,ss,v,ev,rr⟩=>?_) hs rfl))
 subst ev
 obtain⟨u,rfl,ru⟩:=vals1 r1
 cases d with
 | tup es=>
   cases h2
   obtain⟨b,xs,rfl,l,rs⟩:=Rep.tup.mp rr
   cases ru
   obtain⟨its,rv,pt,hz⟩:=I1.tuple l.sq
   refine v8 (items:=its.toArray) pt fun h' he hit kk=>wpAny_pyIter_enum he ?_
   have I2:Inv X pins σ H1 {s1 with heap:=h'}:=I1.kept (t':=s1.toks) kk
   refine⟨s1.heap.objs.size+1,[s1.heap.objs.size+1,s1.heap.objs.size],_,_,H1,rfl,I2,vz b (s1.heap.objs.size+1) s1.heap.objs.size (Nat.succ_ne_self _),⟨⟨_,he⟩,hit⟩,fun c hc=>?_,q _ H1 ss fun B' H' pr=>?_⟩
   ·have hle:s1.heap.objs.size≤c:=by
     rcases List.mem_cons.mp hc with z | hc
     ·rw[z];exact Nat.le_succ _
     ·have z:c=s1.heap.objs.size:=by simpa using hc
      rw[z];exact Nat.le_refl _
    exact I1.qF hle (I1.hok.fresh hle)
   ·have l':rf X.K B' H' b xs:=l.elim (fun z=> .inl ⟨(pr.rd z.2 z.1).2,(pr.rd z.2 z.1).1⟩) .inr
    have rs':=rs.bp pr
    refine⟨fun i d hd=>?_,⟨xs,l'.sq,by rw[←rs.length];unfold dO;simp⟩⟩
    unfold dO at hd
    rw[List.getElem?_map,List.getElem?_zipIdx] at hd
    cases e:es[i]? with
    | none=>rw [e] at hd;cases hd
    | some d0=>
      rw[e] at hd
      have hd:D.tup [.int ((0+i:Nat):Int),d0]=d:=Option.some.inj hd
      rw[Nat.zero_add] at hd
      obtain⟨x,hx,rx⟩:=rs'.get e
      refine⟨⟨xs,x,l'.sq,hx⟩,fun v H'' y hB'=>?_⟩
      obtain⟨p,y,hp,rfl,hy,rfl⟩:=y
      refine⟨bo hp,?_⟩
      subst hd
      have hy2:=hy xs l'.sq
      rw[hx] at hy2
      cases hy2
      refine Rep.tup.mpr ⟨p,_,rfl, .inl ⟨fun ha=>?_, .inl bc⟩,aF.cons (Rep.int.mpr rfl) (aF.cons (rx.same (bo hp)) aF.nil)⟩
      obtain⟨o,ho⟩:=hB' p ha
      rw[hp] at ho;cases ho
 | _=>cases h2
end
end L2
end
section
set_option maxRecDepth 100000
set_option maxHeartbeats 4000000
namespace L2
open PySem PySem.Spec PyProof.Rows
section
variable {X:Cx}
theorem Bb:k6 X (binaryOp .FloorDiv) (rI (fun _ j=>0 < j∧j.natAbs.log2 < 9000) fun i j=> .int (i / j)):=Ho fun i j _ _ _ _ _ hc q=>by
 have h1:(0:Int) < j:=hc.1
 exact floordiv_int (by omega) (by rw[Int.fdiv_eq_ediv_of_nonneg i (by omega)];exact q) (.inl (PyProof.noPylong_of_log2 hc.2))
noncomputable abbrev t4:D→D→R D:=tI (fun _ j=>decide (0 < j∧j.natAbs.log2 < 9000)) fun i j=>i / j
theorem Bc:ke X (binaryOp .FloorDiv) t4:=xS Bb fun i j h=>(of_decide_eq_true h:0 < j∧j.natAbs.log2 < 9000)
noncomputable def Lq(f:av→R (List D))(g:FD):av→R (List D):=fun δ=>(f δ).bind fun ds=>(g δ).bind fun d=>match d with
 | .int k=>R.bC (decide (0≤k∧k < 1000000∧ds.length*k.toNat≤sizeLine)) (.ok (List.replicate k.toNat ds).flatten)
 | _=> .no
noncomputable def BS(ns:List Int):List Int:=ns.mergeSort fun a b=>decide (a≤b)
noncomputable def Ic:List D→R D
 | [.lst ds]=>(match ints? ds with | some ns=>R.bC (decide (ns.length < 64)) (.ok (.lst ((BS ns).map .int))) | none=> .no)
 | _=> .no
theorem getD_in{l:List Int}{i:Nat}(h:i < l.length):l.getD i 0∈l:=by
 have e:l.getD i 0=l[i]:=by simp [h]
 rw[e];exact List.getElem_mem h
theorem fold_min:∀(ns:List Int) (n:Int),ns.foldl min n∈n ::ns∧∀a∈n ::ns,ns.foldl min n≤a
 | [],n=>⟨by simp,fun a ha=>by simp at ha;subst ha;exact Int.le_refl _⟩
 | x ::ns,n=>by
   obtain⟨h1,h2⟩:=fold_min ns (min n x)
   rw[List.foldl_cons]
   refine⟨?_,fun a ha=>?_⟩
   ·rcases List.mem_cons.mp h1 with z | z
    ·rw[z];by_cases hc:n≤x
     ·rw[Int.min_eq_left hc];simp
     ·rw[Int.min_eq_right (by omega)];simp
    ·exact List.mem_cons_of_mem _ (List.mem_cons_of_mem _ z)
   ·have hm:=h2 _ List.mem_cons_self
    rcases List.mem_cons.mp ha with z | z
    ·subst z;omega
    ·rcases List.mem_cons.mp z with z | z
     ·subst z;omega
     ·exact h2 a (List.mem_cons_of_mem _ z)
theorem fold_max:∀(ns:List Int) (n:Int),ns.foldl max n∈n ::ns∧∀a∈n ::ns,a≤ns.foldl max n
 | [],n=>⟨by simp,fun a ha=>by simp at ha;subst ha;exact Int.le_refl _⟩
 | x ::ns,n=>by
   obtain⟨h1,h2⟩:=fold_max ns (max n x)
   rw[List.foldl_cons]
   refine⟨?_,fun a ha=>?_⟩
   ·rcases List.mem_cons.mp h1 with z | z
    ·rw[z];by_cases hc:n≤x
     ·rw[Int.max_eq_right hc];simp
     ·rw[Int.max_eq_left (by omega)];simp
    ·exact List.mem_cons_of_mem _ (List.mem_cons_of_mem _ z)
   ·have hm:=h2 _ List.mem_cons_self
    rcases List.mem_cons.mp ha with z | z
    ·subst z;omega
    ·rcases List.mem_cons.mp z with z | z
     ·subst z;omega
     ·exact h2 a (List.mem_cons_of_mem _ z)
noncomputable def rL:List D→R D
 | [.lst ds]=>(match ints? ds with | some (n ::ns)=> .ok (.int (ns.foldl min n)) | _=> .no)
 | ds=>p6 ds
noncomputable def Af:List D→R D
 | [.lst ds]=>(match ints? ds with | some (n ::ns)=> .ok (.int (ns.foldl max n)) | _=> .no)
 | ds=>Fz ds
theorem zS(hc:X.calm=true):cZ X (.builtin "min") rL:=by
 intro pins s σ H B ds d xs us I hb rx rs hg
 unfold rL at hg
 split at hg
 ·split at hg
  ·rename_i es n ns e
   cases hg
   obtain⟨x,rfl,r⟩:=rs.one
   obtain⟨a,ys,rfl,l,r⟩:=Rep.lst.mp r
   obtain⟨u,rfl,ru⟩:=vals1 rx
   cases ru
   obtain⟨its,k,rv,e1,hz⟩:=I.GA l
   rw[eW r e] at rv
   obtain⟨ps,rfl,hps⟩:=fq rv
   have hl:s.heap.IsList a (intItems ps.toArray):=⟨_,e1,rfl,k,by simp [intItems]⟩
   have hlp:ps.length=ns.length+1:=by have:=congrArg List.length hps;simpa using this
   refine min_intList (I.ok.hd hc) hl (by simp;omega) fun v h' tk hv hk=>?_
   obtain⟨t,rfl⟩:=intItems_at hv
   obtain⟨b1,b2⟩:=argBest_lt (numAt ps.toArray) (ps.toArray.size - 1)
   refine⟨.int _,H,I.kept hk,⟨t,rfl⟩,aQ.refl H,Rep.int.mpr ?_⟩
   obtain⟨m1,m2⟩:=fold_min ns n
   have hge:∀j,j < ps.length→numAt ps.toArray j=(n ::ns).getD j 0:=fun j hj=>by rw[numAt_eq,←hps]
   have hin:numAt ps.toArray (argBest (fun i j=>decide (numAt ps.toArray i < numAt ps.toArray j)) (ps.toArray.size - 1))∈n ::ns:=by
    rw[hge _ (by simp at b1 ⊢;omega)];exact getD_in (by simp at b1 ⊢;omega)
   have hle:=m2 _ hin
   obtain⟨j,hj,ej⟩:=List.getElem_of_mem m1
   have hj':j < ns.length+1:=by simpa using hj
   have h3:=b2 j (by simp;omega)
   rw[hge j (by omega)] at h3
   have h4:(n ::ns).getD j 0=ns.foldl min n:=by rw[←ej,List.getD_eq_getElem?_getD,List.getElem?_eq_getElem hj];rfl
   rw[h4] at h3
   congr 1
   omega
  ·cases hg
 ·exact Hx hc pins s σ H B _ d xs us I hb rx rs hg
theorem ER(hc:X.calm=true):cZ X (.builtin "max") Af:=by
 intro pins s σ H B ds d xs us I hb rx rs hg
 unfold Af at hg
 split at hg
 ·split at hg
  ·rename_i es n ns e
   cases hg
   obtain⟨x,rfl,r⟩:=rs.one
   obtain⟨a,ys,rfl,l,r⟩:=Rep.lst.mp r
   obtain⟨u,rfl,ru⟩:=vals1 rx
   cases ru
   obtain⟨its,k,rv,e1,hz⟩:=I.GA l
   rw[eW r e] at rv
   obtain⟨ps,rfl,hps⟩:=fq rv
   have hl:s.heap.IsList a (intItems ps.toArray):=⟨_,e1,rfl,k,by simp [intItems]⟩
   have hlp:ps.length=ns.length+1:=by have:=congrArg List.length hps;simpa using this
   refine max_intList (I.ok.hd hc) hl (by simp;omega) fun v h' tk hv hk=>?_
   obtain⟨t,rfl⟩:=intItems_at hv
   obtain⟨b1,b2⟩:=argBest_gt (numAt ps.toArray) (ps.toArray.size - 1)
   refine⟨.int _,H,I.kept hk,⟨t,rfl⟩,aQ.refl H,Rep.int.mpr ?_⟩
   obtain⟨m1,m2⟩:=fold_max ns n
   have hge:∀j,j < ps.length→numAt ps.toArray j=(n ::ns).getD j 0:=fun j hj=>by rw[numAt_eq,←hps]
   have hin:numAt ps.toArray (argBest (fun i j=>decide (numAt ps.toArray i > numAt ps.toArray j)) (ps.toArray.size - 1))∈n ::ns:=by
    rw[hge _ (by simp at b1 ⊢;omega)];exact getD_in (by simp at b1 ⊢;omega)
   have hle:=m2 _ hin
   obtain⟨j,hj,ej⟩:=List.getElem_of_mem m1
   have hj':j < ns.length+1:=by simpa using hj
   have h3:=b2 j (by simp;omega)
   rw[hge j (by omega)] at h3
   have h4:(n ::ns).getD j 0=ns.foldl max n:=by rw[←ej,List.getD_eq_getElem?_getD,List.getElem?_eq_getElem hj];rfl
   rw[h4] at h3
   congr 1
   omega
  ·cases hg
 ·exact Hj hc pins s σ H B _ d xs us I hb rx rs hg
end
end L2
namespace L3
open PySem PySem.Spec PyProof.Rows L2
noncomputable def HG(S:aN):V3→Option (List D)
 | .d (.lst ds)=>some ds
 | .loc k=>cG S k
 | _=>none
section
variable {X:Cx} {cl:Nat→Addr}
noncomputable def Lj(fa fb:FX):FX:=fun δ S=>(fa δ S).bind fun a S1=>(fb δ S1).bind fun b S2=>match HG S2 a,HG S2 b with
 | some ds,some es=>R3.bC (decide (ds.length+es.length≤sizeLine)) (.ok (.loc S2.length) (S2++[.lst (ds++es)]))
 | _,_=> .no
noncomputable def K3(i:Nat):FZ:=fun δ S=>match fG δ i with
 | none=> .no
 | some k=>(match cG S k with | some _=> .ok (.nx δ) (S.set k (.lst [])) | none=> .no)
end
end L3
end
section
set_option maxRecDepth 100000
set_option maxHeartbeats 4000000
namespace L3
open PySem PySem.Spec PyProof.Rows L2
noncomputable def kL(S:aN)(c k:Nat):Option (List (Str × V3)):=match S[k]? with | some (.ins c' fs)=>(if c'=c then some fs else none) | _=>none
theorem jO{S:aN}{c k:Nat}{fs:List (Str × V3)}(h:kL S c k=some fs):S[k]? =some (.ins c fs):=by
 unfold kL at h
 split at h
 ·rename_i c' fs' e
  split at h
  ·rename_i hc;cases h;rw [e,hc]
  ·cases h
 ·cases h
theorem wX{K:PySem.W.Frag}{ρ:P3}{H:Hp}{f:Str}{v:V3}:∀{fs:List (Str × V3)} {ys:List (Str × V)},ys.map (·.1)=fs.map (·.1)→aC K ρ H (fs.map (·.2)) (ys.map (·.2))→fs.lookup f=some v→∃x,ys.lookup f=some x∧br K ρ H v x
 | [],ys,_,_,h=>by simp at h
 | (g,w) ::fs,[],e,_,_=>by simp at e
 | (g,w) ::fs,(g',y) ::ys,e,r,h=>by
   obtain⟨e1,e2'⟩:=List.cons.inj e
   have e1:g'=g:=e1
   subst e1
   obtain⟨x,xs,ex,r1,r2⟩:=r.cn
   cases ex
   rw[List.lookup_cons] at h ⊢
   cases hq:f==g' with
   | true=>rw [hq] at h;cases h;exact⟨y,rfl,r1⟩
   | false=>rw [hq] at h;exact wX e2' r2 h
theorem uF{f:Str}:∀{fs:List (Str × V3)} {ys:List (Str × V)},ys.map (·.1)=fs.map (·.1)→fs.lookup f=none→ys.lookup f=none
 | [],[],_,_=>rfl
 | [],_ ::_,e,_=>by simp at e
 | _ ::_,[],e,_=>by simp at e
 | (g,w) ::fs,(g',y) ::ys,e,h=>by
   obtain⟨e1,e2'⟩:=List.cons.inj e
   have e1:g'=g:=e1
   subst e1
   rw[List.lookup_cons] at h ⊢
   cases hq:f==g' with
   | true=>rw [hq] at h;cases h
   | false=>rw [hq] at h;exact uF e2' h
noncomputable def vk(f:Str)(v:V3):List (Str × V3)→List (Str × V3)
 | []=>[(f,v)]
 | (g,x) ::r=>if g=f then(g,v) ::r else(g,x) ::vk f v r
theorem xH{K:PySem.W.Frag}{ρ:P3}{H:Hp}{f:Str}{v:V3}{u:V}(rv:br K ρ H v u):∀{fs:List (Str × V3)} {ys:List (Str × V)},ys.map (·.1)=fs.map (·.1)→aC K ρ H (fs.map (·.2)) (ys.map (·.2))→
 (jc f u ys).map (·.1)=(vk f v fs).map (·.1)∧aC K ρ H ((vk f v fs).map (·.2)) ((jc f u ys).map (·.2))
 | [],[],_,_=>⟨rfl,aC.cons rv aC.nil⟩
 | [],_ ::_,e,_=>by simp at e
 | _ ::_,[],e,_=>by simp at e
 | (g,w) ::fs,(g',y) ::ys,e,r=>by
   obtain⟨e1,e2'⟩:=List.cons.inj e
   have e1:g'=g:=e1
   subst e1
   obtain⟨x,xs,ex,r1,r2⟩:=r.cn
   cases ex
   unfold vk jc
   by_cases hg:g'=f
   ·rw[if_pos hg,if_pos hg]
    exact⟨by rw[List.map_cons,List.map_cons,e2'],aC.cons rv r2⟩
   ·rw[if_neg hg,if_neg hg]
    obtain⟨h1,h2⟩:=xH rv e2' r2
    exact⟨by rw[List.map_cons,List.map_cons,h1],aC.cons r1 h2⟩
section
variable {X:Cx} {cl:Nat→Addr}
noncomputable def nF(c:Nat)(f:Str)(g:FX):FX:=fun δ S=>(g δ S).bind fun v S1=>match v with
 | .loc k=>(match kL S1 c k with | some fs=>(match fs.lookup f with | some v=> .ok v S1 | none=> .no) | none=> .no)
 | _=> .no
theorem iI{c:Nat}{e:Expr}{f:Str}{g:FX}{pos:Pos}(hC:tH X.K (cl c))(hn:df X.K (cl c) f)(he:PX X cl e g)(hb:attributeBase e f X.env (eval e X.env)=eval e X.env:=by rfl):PX X cl (.Attribute e f pos) (nF c f g):=⟨(EW he.1 hb).imp fun σ H Q ⟨ρ,S,δ,v,S',E,hf,q⟩=>by
 obtain⟨o,S1,h1,h2⟩:=R3.ak hf
 split at h2
 ·rename_i k
  split at h2
  ·rename_i fs e1
   split at h2
   ·rename_i w e2'
    cases h2
    refine⟨ρ,S,δ, .loc k,_,E,h1,fun u ρ1 H1 p1 w1 r1=>?_⟩
    unfold br at r1
    obtain⟨a,a1,rfl⟩:=r1
    obtain⟨dx,ys,ey,ek,rs⟩:=w1.ob k a _ a1 (jO e1)
    obtain⟨x,hx,rx⟩:=wX ek rs e2'
    exact⟨a,cl c,dx,ys,x,rfl,ey,hC,hn,hx,q x ρ1 H1 p1 w1 rx⟩
   ·cases h2
  ·cases h2
 ·cases h2⟩
theorem w_fld{c k:Nat}{f:Str}{g:FX}{δ:DE}{S:aN}{Q:V3→aN→Prop}(h:W3 (g δ S) fun v S1=>∃fs w,v= .loc k∧S1[k]? =some (.ins c fs)∧fs.lookup f=some w∧Q w S1):W3 (nF c f g δ S) Q:=
 W3.bind (h.mono fun v S1 ⟨fs,w,e1,e2',e3,q⟩=>by
  subst e1
  have e4:kL S1 c k=some fs:=by unfold kL;simp only[e2',if_true]
  simp only[e4,e3]
  exact W3.ok q)
noncomputable def ft(P:Program)(w:World)(K:PySem.W.Frag)(mg:Str→Option Value)(base:Heap)(cl:Nat→Addr)(k c:Nat)(m:Str)(n:Nat)(g:List V3→aN→R3 V3):Prop:=
 ∃(f:Addr) (fd:FuncData) (ps:List Str),tH K (cl c)∧Meth K (cl c) m f∧hJ P w K mg base qQ k f fd ps (Bt K cl (n+1) g)∧Binds K fd ps []
noncomputable def qk(c:Nat)(m:Str)(g:List V3→aN→R3 V3)(fo:FX)(fs:FA):FX:=fun δ S=>(fo δ S).bind fun o S1=>match o with
 | .loc k=>(match kL S1 c k with | some ys=>(match ys.lookup m with | none=>(fs δ S1).bind fun vs S2=>g (.loc k ::vs) S2 | some _=> .no) | none=> .no)
 | _=> .no
theorem m4{g:List V3→aN→R3 V3}{k j n c:Nat}{m:Str}{o e:Expr}{es:List Expr}{fo:FX}{fs:FA}{apos pos:Pos}{pl:Sem Bool}(M:ft X.prog X.w X.K X.mg X.base cl k c m n g)(hr:eI j X.A)(hkj:k≤j)(ho:PX X cl o fo)(ha:Dc X cl (e ::es) fs)(hn:∀δ S ds S',fs δ S= .ok ds S'→ds.length=n)
 (hst:starEach (e ::es) X.env=(false,eval e X.env) ::starEach es X.env:=by rfl) (hpl:(backTo pos (starEach es X.env)).any (·.1)=false:=by rfl)
 (ht:eval (.Call (.Attribute o m apos) (e ::es) [] pos) X.env=(do
   let ov ←eval o X.env
   standAt apos.atName
   let(f,first) ←holding [ov] (getMethod ov m pl)
   callWith pos f first (backTo pos (starEach (e ::es) X.env)) (backToKw pos (keywordEach [] X.env))):=by rfl) :
 PX X cl (.Call (.Attribute o m apos) (e ::es) [] pos) (qk c m g fo fs):=by
 obtain⟨f,fd,ps,hC,hm,F,hb⟩:=M
 refine⟨(Dq ho.1 hC hm F (hr.mono hkj) hb .nil vm ha.1 hst hpl ht).imp fun σ H Q ⟨ρ,S,δ,v,S',E,hf,q⟩=>?_⟩
 obtain⟨ov,S1,h1,h2⟩:=R3.ak hf
 split at h2
 ·rename_i kk
  split at h2
  ·rename_i ys e1
   split at h2
   ·rename_i e2'
    obtain⟨vs,S2,h3,h4⟩:=R3.ak h2
    refine⟨ρ,S,δ, .loc kk,S1,E,h1,fun u ρ1 H1 p1 w1 r1=>?_⟩
    have r1':=r1
    unfold br at r1
    obtain⟨a,a1,rfl⟩:=r1
    obtain⟨dx,zs,ey,ek,rs⟩:=w1.ob kk a _ a1 (jO e1)
    refine⟨a,dx,zs,rfl,ey,uF ek e2',ρ1,S1,δ,vs,S2,E.to p1 w1,h3,fun us ρ2 H2 p2 w2 r2=>?_⟩
    show Bt X.K cl (n+1) g (V.ref a ::(us++[])) H2 Q E0
    rw[List.append_nil]
    exact⟨by rw[List.length_cons,←r2.length,hn δ S1 vs S2 h3],ρ2,S2, .loc kk ::vs,v,S',w2,aC.cons (r1'.pre p2) r2,h4,fun z ρ3 H3 p3 w3 r3=>q z ρ3 H3 (p1.trans (p2.trans p3)) w3 r3⟩
   ·cases h2
  ·cases h2
 ·cases h2
noncomputable def px(P:Program)(w:World)(K:PySem.W.Frag)(mg:Str→Option Value)(base:Heap)(cl:Nat→Addr)(k c:Nat)(x:Str)(n:Nat)(g:List V3→aN→R3 V3):Prop:=
 ∃(f:Addr) (fd:FuncData) (ps:List Str),Mk K (cl c) f∧hJ P w K mg base qQ k f fd ps (Bt K cl (n+1) g)∧mg x=some (.ref (cl c))∧Binds K fd ps []
noncomputable def xJ(c:Nat)(g:List V3→aN→R3 V3)(fs:FA):FX:=fun δ S=>(fs δ S).bind fun vs S1=>(g (.loc S1.length ::vs) (S1++[.ins c []])).bind fun v S2=>match v with
 | .d .dk=> .ok (.loc S1.length) S2
 | _=> .no
theorem xn{g:List V3→aN→R3 V3}{k j n c:Nat}{x:Str}{p pos:Pos}{e:Expr}{es:List Expr}{fs:FA}(M:px X.prog X.w X.K X.mg X.base cl k c x n g)(hr:eI j X.A)(hkj:k+1≤j)(hg:Gl X x)(ha:Dc X cl (e ::es) fs)(hn:∀δ S ds S',fs δ S= .ok ds S'→ds.length=n)
 (hdb:(x==("__debug__":Str))=false:=by decide) (he:starEach (e ::es) X.env=(false,eval e X.env) ::starEach es X.env:=by rfl) (hpl:(backTo pos (starEach es X.env)).any (·.1)=false:=by rfl) :
 PX X cl (.Call (.Name x p) (e ::es) [] pos) (xJ c g fs):=by
 obtain⟨f,fd,ps,M,F,hm,hb⟩:=M
 refine⟨(B5 M F (hr.mono hkj) hg hm hb .nil vm ha.1 hdb he hpl).imp fun σ H Q ⟨ρ,S,δ,v,S',E,hf,q⟩=>?_⟩
 obtain⟨vs,S1,h1,h2⟩:=R3.ak hf
 obtain⟨v0,S2,h3,h4⟩:=R3.ak h2
 split at h4
 ·cases h4
  refine⟨ρ,S,δ,vs,S1,E,h1,fun us ρ1 H1 p1 w1 r1 xa dx hx hdx hne=>?_⟩
  have hx1:upd H1 dx (.own xa) xa=none:=by rw[ba (fun z=>hne z.symm)];exact hx
  have sm:aQ H1 (upd (upd H1 dx (.own xa)) xa (.ins (cl c) dx [])):=(bo hdx).trans (bo hx1)
  obtain⟨w2,p2⟩:=w1.new (a:=xa) (o:= .ins c []) sm hx ⟨dx,[],bc,rfl,aC.nil⟩
  show Bt X.K cl (n+1) g (V.ref xa ::(us++[])) _ _ E0
  rw[List.append_nil]
  have rl:br X.K (ρ1.push xa) (upd (upd H1 dx (.own xa)) xa (.ins (cl c) dx [])) (.loc S1.length) (.ref xa):=by
   unfold br
   exact⟨xa,by show(ρ1.r++[xa])[_]? =_;rw [←w1.len,List.getElem?_append_right (Nat.le_refl _),Nat.sub_self];rfl,rfl⟩
  exact⟨by rw[List.length_cons,←r1.length,hn δ S vs S1 h1],_,_, .loc S1.length ::vs, .d .dk,_,w2,aC.cons rl (r1.pre p2),h3,fun z ρ3 H3 p3 w3 r3=>⟨by unfold br Rep at r3;exact r3,q _ ρ3 H3 (p1.trans (p2.trans p3)) w3 (rl.pre p3)⟩⟩
 ·cases h4
noncomputable def tj(c:Nat)(f:Str)(fo fe:FX):FZ:=fun δ S=>(fe δ S).bind fun v S1=>(fo δ S1).bind fun o S2=>match o with
 | .loc k=>(match kL S2 c k with | some fs=>R3.bC (decide (fs.length < 1000)) (.ok (.nx δ) (S2.set k (.ins c (vk f v fs)))) | none=> .no)
 | _=> .no
theorem lK{c:Nat}{o value:Expr}{f:Str}{fo fe:FX}{pos pos':Pos}(hC:tH X.K (cl c))(hn:df X.K (cl c) f)(ho:PX X cl o fo)(he:PX X cl value fe)(hs:swapsWith value (some (.Attribute o f pos')) pos.line X.env=pure false:=by rfl) :
 PZ X cl (.Assign [.Attribute o f pos'] value pos) (tj c f fo fe):=⟨(FN ho.1 he.1 hs).imp fun D σ H ⟨ρ,S,δ,ou,S',E,hf,q⟩=>by
 obtain⟨v,S1,h1,h2⟩:=R3.ak hf
 obtain⟨vo,S2,h3,h4⟩:=R3.ak h2
 split at h4
 ·rename_i k
  split at h4
  ·rename_i fs e1
   obtain⟨hl,h5⟩:=R3.bj h4
   cases h5
   refine⟨ρ,S,δ,v,S1,E,h1,fun u ρ1 H1 p1 w1 r1=>⟨ρ1,S1,δ, .loc k,S2,E.to p1 w1,h3,fun u2 ρ2 H2 p2 w2 r2=>?_⟩⟩
   unfold br at r2
   obtain⟨a,a1,rfl⟩:=r2
   obtain⟨dx,ys,ey,ek,rs⟩:=w2.ob k a _ a1 (jO e1)
   have hlen:ys.length=fs.length:=by have:=congrArg List.length ek;simpa using this
   obtain⟨k1,k2⟩:=xH (f:=f) (r1.pre p2) ek rs
   obtain⟨w3,p3⟩:=w2.put (o:= .ins c (vk f v fs)) (u:= .ins (cl c) dx (jc f u ys)) a1 (w2.fz k a a1 (by rw[jO e1];intro h;cases h)) ⟨dx,_,rfl,k1,k2⟩
   exact⟨a,cl c,dx,ys,rfl,ey,hC,hn,by rw[hlen];exact of_decide_eq_true hl,q σ ρ2 _ (p1.trans (p2.trans p3)) (E.to (p1.trans (p2.trans p3)) w3)⟩
  ·cases h4
 ·cases h4⟩
theorem iA{c k:Nat}{f:Str}{fo fe:FX}{δ:DE}{S:aN}{QO:Ou→aN→Prop}(h:W3 (fe δ S) fun v S1=>W3 (fo δ S1) fun o S2=>∃fs,o= .loc k∧S2[k]? =some (.ins c fs)∧fs.length < 1000∧QO (.nx δ) (S2.set k (.ins c (vk f v fs)))):W3 (tj c f fo fe δ S) QO:=
 W3.bind (h.mono fun v S1 h=>W3.bind (h.mono fun o S2 ⟨fs,e1,e2',hl,q⟩=>by
  subst e1
  have e4:kL S2 c k=some fs:=by unfold kL;simp only[e2',if_true]
  simp only[e4]
  exact W3.wh (decide_eq_true hl) (W3.ok q)))
theorem pE{c k:Nat}{m:Str}{g:List V3→aN→R3 V3}{fo:FX}{fs:FA}{δ:DE}{S:aN}{Q:V3→aN→Prop}(h:W3 (fo δ S) fun o S1=>∃ys,o= .loc k∧S1[k]? =some (.ins c ys)∧ys.lookup m=none∧W3 (fs δ S1) fun vs S2=>W3 (g (.loc k ::vs) S2) Q):W3 (qk c m g fo fs δ S) Q:=
 W3.bind (h.mono fun o S1 ⟨ys,e1,e2',e3,h⟩=>by
  subst e1
  have e4:kL S1 c k=some ys:=by unfold kL;simp only[e2',if_true]
  simp only[e4,e3]
  exact W3.bind h)
theorem AD{c:Nat}{g:List V3→aN→R3 V3}{fs:FA}{δ:DE}{S:aN}{Q:V3→aN→Prop}(h:W3 (fs δ S) fun vs S1=>W3 (g (.loc S1.length ::vs) (S1++[.ins c []])) fun v S2=>v= .d .dk∧Q (.loc S1.length) S2):W3 (xJ c g fs δ S) Q:=
 W3.bind (h.mono fun vs S1 h=>W3.bind (h.mono fun v S2 ⟨e,q⟩=>by subst e;exact W3.ok q))
end
end L3
end
section
set_option maxRecDepth 100000
set_option maxHeartbeats 4000000
namespace PySem
open Sem (wp)
noncomputable def fZ(t:Bool)(h:Heap)(i l:Addr)(k:Nat):Prop:=cond t (h.IsTupleIter i l k) (h.IsListIter i l k)
noncomputable def iS(t:Bool)(h:Heap)(l:Addr)(xs:Array Value):Prop:=cond t (h.IsTuple l xs) (h.IsList l xs)
noncomputable def pA(t:Bool):String:=cond t "tuple_iterator" "list_iterator"
theorem fZ.at{t:Bool}{h h':Heap}{i l:Addr}{k:Nat}(x:fZ t h i l k)(e:∀o,h.get? i=some o→h'.get? i=some o):fZ t h' i l k:=by
 cases t with
 | true=>exact Heap.IsTupleIter.at x e
 | false=>exact Heap.IsListIter.at x e
theorem iS.at{t:Bool}{h h':Heap}{l:Addr}{xs:Array Value}(x:iS t h l xs)(e:∀o,h.get? l=some o→h'.get? l=some o):iS t h' l xs:=by
 cases t with
 | true=>exact Heap.IsTuple.at x e
 | false=>exact Heap.IsList.at x e
theorem fZ.xb{t:Bool}{h h':Heap}{i l b:Addr}{k:Nat}(x:fZ t h i l k)(hs:Heap.ExtBut b h h')(hab:i≠b):fZ t h' i l k:=x.at fun o e=>hs i o hab e
theorem iS.xb{t:Bool}{h h':Heap}{l b:Addr}{xs:Array Value}(x:iS t h l xs)(hs:Heap.ExtBut b h h')(hab:l≠b):iS t h' l xs:=x.at fun o e=>hs l o hab e
theorem fZ.ob{t:Bool}{h:Heap}{i l:Addr}{k:Nat}(x:fZ t h i l k):∃o,h.get? i=some o∧∀v,o.data≠ .cell v:=by
 cases t with
 | true=>obtain⟨o,e,_,d⟩:=x;exact⟨o,e,fun v z=>by rw[d] at z;cases z⟩
 | false=>obtain⟨o,e,_,d⟩:=x;exact⟨o,e,fun v z=>by rw[d] at z;cases z⟩
theorem iS.lt{t:Bool}{h:Heap}{l:Addr}{xs:Array Value}(x:iS t h l xs):l < h.objs.size:=by
 cases t with
 | true=>obtain⟨o,e,_⟩:=x;exact Heap.lt_size e
 | false=>obtain⟨o,e,_⟩:=x;exact Heap.lt_size e
theorem fZ.lt{t:Bool}{h:Heap}{i l:Addr}{k:Nat}(x:fZ t h i l k):i < h.objs.size:=let⟨_,e,_⟩:=x.ob;Heap.lt_size e
section
variable {prog:Program} {w:World} {A:Around} {E:Value→Shared→Prop} {s:Shared}
theorem iQ{t:Bool}{it l:Addr}{i:Nat}{items:Array Value}{x:Value}{Q:Value→Shared→Prop}(hit:fZ t s.heap it l i)(hl:iS t s.heap l items)(hx:items[i]? =some x)
 (hQ:∀h',fZ t h' it l (i+1)→Heap.SameBut it s.heap h'→Q x {s with heap:=h'}):wpAny (model prog w) A (Builtin.SmallTypes.nextOf (.ref it)) Q E s:=by
 cases t with
 | true=>exact j8 hit hl hx hQ
 | false=>exact wpAny_nextOf_list_item hit hl hx hQ
theorem lz{t:Bool}{it l:Addr}{i:Nat}{items:Array Value}{Q:Value→Shared→Prop}(hh:A.handled=none)(hit:fZ t s.heap it l i)(hl:iS t s.heap l items)(hx:items[i]? =none)
 (hE:∀h' e,Heap.ExtBut it s.heap h'→(∃o,h'.get? e=some o∧o.cls= .type "StopIteration")→E (.ref e) {s with heap:=h'}):wpAny (model prog w) A (Builtin.SmallTypes.nextOf (.ref it)) Q E s:=by
 cases t with
 | true=>exact iK hh hit hl hx hE
 | false=>exact wpAny_nextOf_list_end hh hit hl hx hE
theorem rC{t:Bool}{l:Addr}{items:Array Value}{Q:Value→Shared→Prop}(hl:iS t s.heap l items)
 (hQ:Q (.ref s.heap.objs.size) {s with heap:=s.heap.push {cls:= .type (pA t),data:= .fields #[.ref l, .int 0 0]}}):wpAny (model prog w) A (pyIter (.ref l)) Q E s:=by
 cases t with
 | true=>exact wpAny_pyIter_tuple hl hQ
 | false=>exact wpAny_pyIter_list hl hQ
theorem zi{t u:Bool}{z TI TO i1 i2 l1 l2:Addr}{k1 k2:Nat}{xs ys:Array Value}{x y a b:Value}{Q:Value→Shared→Prop}(D:ZipApart z TI TO i1 i2 l1 l2)(hz:IsZip s.heap z TI TO .none)(hTI:IsPair s.heap TI (.ref i1) (.ref i2))
 (hTO:IsPair s.heap TO a b) (h1:fZ t s.heap i1 l1 k1) (h2:fZ u s.heap i2 l2 k2) (hl1:iS t s.heap l1 xs) (hl2:iS u s.heap l2 ys) (hx:xs[k1]? =some x) (hy:ys[k2]? =some y)
 (hQ:∀h',IsZip h' z TI TO (rawInt s.heap.objs.size)→IsPair h' TO x y→fZ t h' i1 l1 (k1+1)→fZ u h' i2 l2 (k2+1)→IsPair h' s.heap.objs.size x y→h'.objs.size=s.heap.objs.size+1→(∀c o,c≠z→c≠TO→c≠i1→c≠i2→s.heap.get? c=some o→h'.get? c=some o)→Q (.ref s.heap.objs.size) {s with heap:=h'}) :
 wpAny (model prog w) A (Builtin.«zip.__next__» ⟨[.ref z],[]⟩) (fun fin s'=>∃v,fin= .done (.ret v)∧Q v s') E s:=by
 show wpAny _ _ (field (.ref z) 2 >>=_) _ _ _;refine wpAny_bind (wpAny_field hz rfl (x:= .bool false) rfl ?_);show wpAny _ _ (field (.ref z) 3 >>=_) _ _ _
 refine wpAny_bind (wpAny_field hz rfl (x:= .ref TI) rfl ?_);refine wpAny_bind (wpAny_seqItems hTI rfl ?_);show wpAny _ _ (Builtin.SmallTypes.ownedTupleIsFree (.ref z) >>=_) _ _ _
 refine wpAny_bind ?_;unfold Builtin.SmallTypes.ownedTupleIsFree;refine wpAny_bind (wpAny_field hz rfl (x:= .none) rfl (wpAny_pure ?_));simp only[if_true]
 refine wpAny_bind (wpAny_rule ?_);refine wpAny_bind (wpAny_field hz rfl (x:= .ref TO) rfl ?_);refine wpAny_bind (wpAny_setField_rec hz (by simp) fun h₁ hz₁ hs₁=>?_)
 replace hz₁:IsZip h₁ z TI TO .ellipsis:=hz₁;refine wpAny_bind ?_;simp only[List.zipIdx_cons,List.zipIdx_nil,List.forIn_cons,List.forIn_nil]
 refine wpAny_bind (wpAny_bind (wpAny_onRaise ?_));show wpAny _ _ (Builtin.SmallTypes.nextOf (.ref i1) >>=_) _ _ _
 refine wpAny_bind (iQ (h1.xb hs₁.extBut D.i1z) (hl1.xb hs₁.extBut D.l1z) hx fun h₂ h1₂ hs₂=>wpAny_pure ?_)
 have hTO₂:IsPair h₂ TO a b:=hs₂.extBut _ _ D.TOi1 (hs₁.extBut _ _ D.TOz hTO);refine wpAny_bind (wpAny_seqItems hTO₂ rfl ?_);refine wpAny_bind (wpAny_updateSeq_pair hTO₂ fun h₃ hTO₃ hs₃=>?_)
 replace hTO₃:IsPair h₃ TO x b:=hTO₃;refine wpAny_bind (wpAny_letGo (wpAny_pure ?_));refine wpAny_bind (wpAny_bind (wpAny_onRaise ?_));show wpAny _ _ (Builtin.SmallTypes.nextOf (.ref i2) >>=_) _ _ _
 refine wpAny_bind (iQ (((h2.xb hs₁.extBut D.i2z).xb hs₂.extBut D.i12.symm).xb hs₃.extBut D.TOi2.symm) (((hl2.xb hs₁.extBut D.l2z).xb hs₂.extBut D.l2i1).xb hs₃.extBut D.l2TO) hy fun h₄ h2₄ hs₄=>wpAny_pure ?_)
 have hTO₄:IsPair h₄ TO x b:=hs₄.extBut _ _ D.TOi2 hTO₃;refine wpAny_bind (wpAny_seqItems hTO₄ rfl ?_);refine wpAny_bind (wpAny_updateSeq_pair hTO₄ fun h₅ hTO₅ hs₅=>?_)
 replace hTO₅:IsPair h₅ TO x y:=hTO₅;refine wpAny_bind (wpAny_letGo (wpAny_pure (wpAny_pure ?_)));refine wpAny_bind (wpAny_seqItems hTO₅ rfl ?_);refine wpAny_bind (wpAny_newTuple ?_)
 have hsz:h₅.objs.size=s.heap.objs.size:=(hs₅.1.trans (hs₄.1.trans (hs₃.1.trans (hs₂.1.trans hs₁.1))))
 have hz₅:IsZip h₅ z TI TO .ellipsis:=hs₅.extBut _ _ D.TOz.symm <| hs₄.extBut _ _ D.i2z.symm <| hs₃.extBut _ _ D.TOz.symm <| hs₂.extBut _ _ D.i1z.symm hz₁
 have hk₅:∀c o,c≠z→c≠TO→c≠i1→c≠i2→s.heap.get? c=some o→h₅.get? c=some o:=fun c o c1 c2 c3 c4 e=>hs₅.extBut _ _ c2 <| hs₄.extBut _ _ c4 <| hs₃.extBut _ _ c2 <| hs₂.extBut _ _ c3 <| hs₁.extBut _ _ c1 e
 have h1₅:fZ t h₅ i1 l1 (k1+1):=((h1₂.xb hs₃.extBut D.TOi1.symm).xb hs₄.extBut D.i12).xb hs₅.extBut D.TOi1.symm
 have h2₅:fZ u h₅ i2 l2 (k2+1):=h2₄.xb hs₅.extBut D.TOi2.symm
 have hzlt:=Heap.lt_size hz₅
 show wpAny _ _ (Builtin.SmallTypes.ownedTupleHandOut (.ref z) (.ref h₅.objs.size) >>=_) _ _ _;refine wpAny_bind ?_;unfold Builtin.SmallTypes.ownedTupleHandOut
 have hz₆:IsZip (h₅.push {cls:= .type "tuple",data:= .seq #[x,y]}) z TI TO .ellipsis:=Heap.get?_push_of_some _ hz₅;refine wpAny_bind (wpAny_setField_rec hz₆ (by simp) fun h₇ hz₇ hs₇=>?_)
 replace hz₇:IsZip h₇ z TI TO (rawInt h₅.objs.size):=hz₇;refine wpAny_setField_rec hz₇ (by simp) fun h₈ hz₈ hs₈=>?_;replace hz₈:IsZip h₈ z TI TO (rawInt h₅.objs.size):=hz₈
 have up:∀c o,c≠z→h₅.get? c=some o→h₈.get? c=some o:=fun c o c1 e=>hs₈.extBut _ _ c1 <| hs₇.extBut _ _ c1 (Heap.get?_push_of_some _ e)
 have hT₈:IsPair h₈ h₅.objs.size x y:=hs₈.extBut _ _ (Nat.ne_of_gt hzlt) <| hs₇.extBut _ _ (Nat.ne_of_gt hzlt) (Heap.get?_push_size _ rfl)
 have hz8:h₈.objs.size=h₅.objs.size+1:=(hs₈.1.trans hs₇.1).trans (Heap.size_push ..)
 rw[hsz] at hz₈ hT₈ hz8;refine wpAny_pure ⟨_,rfl,?_⟩;show Q (.ref h₅.objs.size) _;rw [hsz]
 exact hQ h₈ hz₈ (up _ _ D.TOz hTO₅) (h1₅.at fun o e=>up _ o D.i1z e) (h2₅.at fun o e=>up _ o D.i2z e) hT₈ hz8 fun c o c1 c2 c3 c4 e=>up c o c1 (hk₅ c o c1 c2 c3 c4 e)
theorem Bj{t u:Bool}{z TI TO i1 i2 l1 l2:Addr}{k1 k2:Nat}{xs ys:Array Value}{a b:Value}{Q:Fin→Shared→Prop}(hh:A.handled=none)(D:ZipApart z TI TO i1 i2 l1 l2)(hz:IsZip s.heap z TI TO .none)
 (hTI:IsPair s.heap TI (.ref i1) (.ref i2)) (hTO:IsPair s.heap TO a b) (h1:fZ t s.heap i1 l1 k1) (h2:fZ u s.heap i2 l2 k2) (hl1:iS t s.heap l1 xs) (hl2:iS u s.heap l2 ys) (hend:xs[k1]? =none∨ys[k2]? =none)
 (hE:∀h' e,(∀c o,c≠z→c≠TO→c≠i1→c≠i2→s.heap.get? c=some o→h'.get? c=some o)→(∃o,h'.get? e=some o∧o.cls= .type "StopIteration")→E (.ref e) {s with heap:=h'}):wpAny (model prog w) A (Builtin.«zip.__next__» ⟨[.ref z],[]⟩) Q E s:=by
 show wpAny _ _ (field (.ref z) 2 >>=_) _ _ _;refine wpAny_bind (wpAny_field hz rfl (x:= .bool false) rfl ?_);show wpAny _ _ (field (.ref z) 3 >>=_) _ _ _
 refine wpAny_bind (wpAny_field hz rfl (x:= .ref TI) rfl ?_);refine wpAny_bind (wpAny_seqItems hTI rfl ?_);show wpAny _ _ (Builtin.SmallTypes.ownedTupleIsFree (.ref z) >>=_) _ _ _
 refine wpAny_bind ?_;unfold Builtin.SmallTypes.ownedTupleIsFree;refine wpAny_bind (wpAny_field hz rfl (x:= .none) rfl (wpAny_pure ?_));simp only[if_true]
 refine wpAny_bind (wpAny_rule ?_);refine wpAny_bind (wpAny_field hz rfl (x:= .ref TO) rfl ?_);refine wpAny_bind (wpAny_setField_rec hz (by simp) fun h₁ hz₁ hs₁=>?_)
 replace hz₁:IsZip h₁ z TI TO .ellipsis:=hz₁;refine wpAny_bind ?_;simp only[List.zipIdx_cons,List.zipIdx_nil,List.forIn_cons,List.forIn_nil]
 refine wpAny_bind (wpAny_bind (wpAny_onRaise ?_));show wpAny _ _ (Builtin.SmallTypes.nextOf (.ref i1) >>=_) _ _ _
 cases hx:xs[k1]? with
 | none=>
   refine wpAny_bind (lz hh (h1.xb hs₁.extBut D.i1z) (hl1.xb hs₁.extBut D.l1z) hx fun h₂ e hs₂ he=>?_)
   obtain⟨oe,hoe,hce⟩:=he;have hz₂:IsZip h₂ z TI TO .ellipsis:=hs₂ _ _ D.i1z.symm hz₁
   have hez:e≠z:=fun x=>by {subst x;rw [hz₂] at hoe;cases hoe;simp at hce}
   exact wpAny_setField_rec hz₂ (by simp) fun h₃ _ hs₃=>hE h₃ e (fun c o c1 _ c3 _ x=>hs₃.extBut _ _ c1 <| hs₂ _ _ c3 <| hs₁.extBut _ _ c1 x) ⟨oe,hs₃.extBut _ _ hez hoe,hce⟩
 | some x=>
   have hy:ys[k2]? =none:=hend.resolve_left fun h=>by {rw [hx] at h;cases h}
   refine wpAny_bind (iQ (h1.xb hs₁.extBut D.i1z) (hl1.xb hs₁.extBut D.l1z) hx fun h₂ h1₂ hs₂=>wpAny_pure ?_)
   have hTO₂:IsPair h₂ TO a b:=hs₂.extBut _ _ D.TOi1 (hs₁.extBut _ _ D.TOz hTO);refine wpAny_bind (wpAny_seqItems hTO₂ rfl ?_);refine wpAny_bind (wpAny_updateSeq_pair hTO₂ fun h₃ hTO₃ hs₃=>?_)
   refine wpAny_bind (wpAny_letGo (wpAny_pure ?_));refine wpAny_bind (wpAny_bind (wpAny_onRaise ?_));show wpAny _ _ (Builtin.SmallTypes.nextOf (.ref i2) >>=_) _ _ _
   refine wpAny_bind (lz hh (((h2.xb hs₁.extBut D.i2z).xb hs₂.extBut D.i12.symm).xb hs₃.extBut D.TOi2.symm) (((hl2.xb hs₁.extBut D.l2z).xb hs₂.extBut D.l2i1).xb hs₃.extBut D.l2TO) hy fun h₄ e hs₄ he=>?_)
   obtain⟨oe,hoe,hce⟩:=he;have hz₄:IsZip h₄ z TI TO .ellipsis:=hs₄ _ _ D.i2z.symm <| hs₃.extBut _ _ D.TOz.symm <| hs₂.extBut _ _ D.i1z.symm hz₁
   have hez:e≠z:=fun x=>by {subst x;rw [hz₄] at hoe;cases hoe;simp at hce}
   exact wpAny_setField_rec hz₄ (by simp) fun h₅ _ hs₅=>hE h₅ e (fun c o c1 c2 c3 c4 x=>hs₅.extBut _ _ c1 <| hs₄ _ _ c4 <| hs₃.extBut _ _ c2 <| hs₂.extBut _ _ c3 <| hs₁.extBut _ _ c1 x) ⟨oe,hs₅.extBut _ _ hez hoe,hce⟩
end
noncomputable abbrev Io(t:Bool)(h:Heap)(l1:Addr):Heap:=h.push {cls:= .type (pA t),data:= .fields #[.ref l1, .int 0 0]}
noncomputable abbrev Im(t u:Bool)(h:Heap)(l1 l2:Addr):Heap:=(Io t h l1).push {cls:= .type (pA u),data:= .fields #[.ref l2, .int 0 0]}
noncomputable abbrev Ig(t u:Bool)(h:Heap)(l1 l2:Addr):Heap:=(Im t u h l1 l2).push {cls:= .type "tuple",data:= .seq #[.ref h.objs.size, .ref (Io t h l1).objs.size]}
noncomputable abbrev Ij(t u:Bool)(h:Heap)(l1 l2:Addr):Heap:=(Ig t u h l1 l2).push {cls:= .type "tuple",data:= .seq #[.none, .none]}
noncomputable abbrev GI(t u:Bool)(h:Heap)(l1 l2:Addr):Heap:=(Ij t u h l1 l2).push {cls:= .type "zip",data:= .fields #[.none, .bool false, .bool false, .ref (Im t u h l1 l2).objs.size, .ref (Ig t u h l1 l2).objs.size]}
theorem wI(t u:Bool)(l1 l2:Addr)(xs ys:Array Value):Meets (Builtin.«zip.__new__» ⟨[.type "zip", .ref l1, .ref l2],[]⟩) (fun _ R s=>iS t s.heap l1 xs∧iS u s.heap l2 ys∧R (.ok (.ret (.ref (Ij t u s.heap l1 l2).objs.size))) {s with heap:=GI t u s.heap l1 l2}):=
 .of_wp fun prog w A R s h=>by
  obtain⟨hp,g,d,tk,os⟩:=s
  obtain⟨hl1,hl2,h⟩:=h;have hsub:=sub_zip
  have hL1:iS t (Shared.heap ⟨hp,g,d,tk,os⟩) l1 xs:=hl1
  have hL2:iS u (Shared.heap ⟨hp.push {cls:= .type (pA t),data:= .fields #[.ref l1, .int 0 0]},g,d,tk,os⟩) l2 ys:=hl2.at fun o e=>Heap.get?_push_of_some _ e
  wp_walk using rC hL1,rC hL2
  exact⟨_,rfl,h⟩
theorem fZ.new{t:Bool}{h:Heap}{i l:Addr}(e:h.get? i=some {cls:= .type (pA t),data:= .fields #[.ref l, .int 0 0]}):fZ t h i l 0:=by
 cases t with
 | true=>exact⟨_,e,rfl,rfl⟩
 | false=>exact⟨_,e,rfl,rfl⟩
theorem yZ{prog:Program}{w:World}{A:Around}{E:Value→Shared→Prop}{s:Shared}{t u:Bool}{l1 l2:Addr}{xs ys:Array Value}{Q:Value→Shared→Prop}(hl1:iS t s.heap l1 xs)(hl2:iS u s.heap l2 ys)
 (h:∀h',IsZip h' (s.heap.objs.size+4) (s.heap.objs.size+2) (s.heap.objs.size+3) .none→IsPair h' (s.heap.objs.size+2) (.ref s.heap.objs.size) (.ref (s.heap.objs.size+1))→IsPair h' (s.heap.objs.size+3) .none .none→
   fZ t h' s.heap.objs.size l1 0→fZ u h' (s.heap.objs.size+1) l2 0→(∀c o,s.heap.get? c=some o→h'.get? c=some o)→Q (.ref (s.heap.objs.size+4)) {s with heap:=h'}):wpAny (model prog w) A (call (.type "zip") [.ref l1, .ref l2]) Q E s:=by
 refine callType_new F.called_zip (by decide) (F.typeCall_zip_2 _ _) (F.newCall_zip_2 _ _) (fun obj=>F.args_object_init_3 obj _ _) F.entry_zip_new (wI t u l1 l2 xs ys) ⟨hl1,hl2,?_⟩
 have z1:(Io t s.heap l1).objs.size=s.heap.objs.size+1:=Heap.size_push ..
 have z2:(Im t u s.heap l1 l2).objs.size=s.heap.objs.size+2:=(Heap.size_push ..).trans (congrArg (·+1) z1)
 have z3:(Ig t u s.heap l1 l2).objs.size=s.heap.objs.size+3:=(Heap.size_push ..).trans (congrArg (·+1) z2)
 have z4:(Ij t u s.heap l1 l2).objs.size=s.heap.objs.size+4:=(Heap.size_push ..).trans (congrArg (·+1) z3)
 have g5:(GI t u s.heap l1 l2).get? (Ij t u s.heap l1 l2).objs.size=some _:=Heap.get?_push_size _ rfl
 have g4:(GI t u s.heap l1 l2).get? (Ig t u s.heap l1 l2).objs.size=some _:=Heap.get?_push_of_some _ (Heap.get?_push_size _ rfl)
 have g3:(GI t u s.heap l1 l2).get? (Im t u s.heap l1 l2).objs.size=some _:=Heap.get?_push_of_some _ <| Heap.get?_push_of_some _ (Heap.get?_push_size _ rfl)
 have g2:(GI t u s.heap l1 l2).get? (Io t s.heap l1).objs.size=some _:=Heap.get?_push_of_some _ <| Heap.get?_push_of_some _ <| Heap.get?_push_of_some _ (Heap.get?_push_size _ rfl)
 have g1:(GI t u s.heap l1 l2).get? s.heap.objs.size=some _:=Heap.get?_push_of_some _ <| Heap.get?_push_of_some _ <| Heap.get?_push_of_some _ <| Heap.get?_push_of_some _ (Heap.get?_push_size _ rfl)
 show _∧_
 rw[z2,z3,z4] at g5;rw [z1,z2] at g3;rw [z3] at g4;rw [z1] at g2;rw [z4]
 exact⟨⟨_,g5,rfl⟩,h _ g5 g3 g4 (fZ.new g1) (fZ.new g2) fun c o x=>Heap.get?_push_of_some _ <| Heap.get?_push_of_some _ <| Heap.get?_push_of_some _ <| Heap.get?_push_of_some _ <| Heap.get?_push_of_some _ x⟩
end PySem
namespace L2
open PySem PySem.Spec PyProof.Rows
noncomputable def B0(t:Bool)(K:PySem.W.Frag)(H:Hp)(a:Addr)(xs:List V):Prop:=cond t (oO K H a xs) (mD K H a xs)
theorem Inv.Dz{X:Cx}{pins:List (Addr × Obj)}{σ:L2.St}{H:Hp}{s:Shared}{t:Bool}{a:Addr}{xs:List V}(I:Inv X pins σ H s)(h:B0 t X.K H a xs):∃its:List Value,Vals xs its∧iS t s.heap a its.toArray:=by
 cases t with
 | true=>obtain⟨its,r,p,_⟩:=I.tuple h;exact⟨its,r,p⟩
 | false=>obtain⟨its,r,p,_⟩:=I.list h;exact⟨its,r,p.isList⟩
theorem Inv.yi{X:Cx}{pins:List (Addr × Obj)}{σ:L2.St}{H:Hp}{s:Shared}{t:Bool}{a:Addr}{xs ys:List V}(I:Inv X pins σ H s)(h:B0 t X.K H a xs)(h':B0 t X.K H a ys):xs=ys:=by
 cases t with
 | true=>exact I.nO h h'
 | false=>exact I.ng h h'
noncomputable def K2(K:PySem.W.Frag)(t u:Bool)(a b:Addr):It:=
 ⟨fun i H=>∃xs ys x y,B0 t K H a xs∧B0 u K H b ys∧xs[i]? =some x∧ys[i]? =some y,
  fun i H v H'=>∃p x y,H p=none∧v= .ref p∧(∀xs,B0 t K H a xs→xs[i]? =some x)∧(∀ys,B0 u K H b ys→ys[i]? =some y)∧H'=upd H p (.tup [x,y]),
  fun i H=>∃xs ys,B0 t K H a xs∧B0 u K H b ys∧(xs.length≤i∨ys.length≤i)⟩
theorem Ap{P:Program}{w:World}{K:PySem.W.Frag}{elts:List Expr}{k:Nat}{pos:Pos}{t u:Bool}{z TI TO i1 i2 a b:Addr}(D:ZipApart z TI TO i1 i2 a b):Turn P w K (.Tuple elts k pos) (K2 K t u a b) [z,TI,TO,i1,i2] z
 (fun i h=>IsZip h z TI TO .none∧IsPair h TI (.ref i1) (.ref i2)∧(∃x y,IsPair h TO x y)∧fZ t h i1 a i∧fZ u h i2 b i) where
 mem:=by simp
 obj:=fun i h st c hc=>by
  obtain⟨hz,hTI,⟨x,y,hTO⟩,h1,h2⟩:=st
  simp only[List.mem_cons,List.not_mem_nil,or_false] at hc
  rcases hc with rfl | rfl | rfl | rfl | rfl
  ·exact⟨_,hz,fun v z=>by cases z⟩
  ·exact⟨_,hTI,fun v z=>by cases z⟩
  ·exact⟨_,hTO,fun v z=>by cases z⟩
  ·exact h1.ob
  ·exact h2.ob
 keep:=fun i h h' st k=>by
  obtain⟨hz,hTI,⟨x,y,hTO⟩,h1,h2⟩:=st
  exact⟨k z (by simp) _ hz,k TI (by simp) _ hTI,⟨x,y,k TO (by simp) _ hTO⟩,h1.at fun o e=>k i1 (by simp) o e,h2.at fun o e=>k i2 (by simp) o e⟩
 item:=by
  intro X hP hw hK hc i pins s σ H E I hf st hg
  subst hP hw hK
  obtain⟨xs,ys,x,y,hq,hr,hx,hy⟩:=hg
  obtain⟨its,rv,p⟩:=I.Dz hq
  obtain⟨jts,rw',p'⟩:=I.Dz hr
  obtain⟨ux,hu,ru⟩:=rv.get hx
  obtain⟨uy,hu',ru'⟩:=rw'.get hy
  obtain⟨hz,hTI,⟨a0,b0,hTO⟩,h1,h2⟩:=st
  have hT:s.TypeIs (.ref z) "zip":=⟨_,hz,rfl⟩
  unfold pyNext
  refine wpAny_bind (wpAny_attempt (wpAny_callSpecial?_slot (name:=Str.ofString "__next__") hT F.slot_zip_next (wpAny_call_entry F.slot_zip_next hT F.entry_zip_next (zi D hz hTI hTO h1 h2 p p' (x:=ux) (y:=uy) (by simpa using hu) (by simpa using hu') fun h₁ a1 a2 a3 a4 a5 a6 hk₁=>wpAny_pure ?_) (F.args_zip_next_1 _))))
  refine⟨_,rfl,wpAny_letOwnedTupleGo_zip a1 fun h₂ hz₂ hs₂=>?_⟩
  replace hs₂:Heap.SameBut z h₁ h₂:=hs₂
  have hzl:z < s.heap.objs.size:=Heap.lt_size hz
  have ht₂:h₂.get? s.heap.objs.size=some {cls:= .type "tuple",data:= .seq #[ux,uy]}:=(hs₂.2 _ (Nat.ne_of_gt hzl)).trans a5
  have kk:∀b o,b≠z→b≠TO→b≠i1→b≠i2→s.heap.get? b=some o→h₂.get? b=some o:=fun b o c1 c2 c3 c4 q=>(hs₂.2 b c1).trans (hk₁ b o c1 c2 c3 c4 q)
  have hn:H s.heap.objs.size=none:=I.fresh
  have sm:aQ H (upd H s.heap.objs.size (.tup [x,y])):=bo hn
  have f0:∀c∈[z,TI,TO,i1,i2],H c=none:=fun c hc=>(hf c hc).1
  have nit:∀b o,H b=some o→b≠z∧b≠TO∧b≠i1∧b≠i2:=fun b o q=>by
   refine⟨fun e=>?_,fun e=>?_,fun e=>?_,fun e=>?_⟩
   ·rw[e,f0 z (by simp)] at q;cases q
   ·rw[e,f0 TO (by simp)] at q;cases q
   ·rw[e,f0 i1 (by simp)] at q;cases q
   ·rw[e,f0 i2 (by simp)] at q;cases q
  have kH:∀b o q,H b=some q→s.heap.get? b=some o→h₂.get? b=some o:=fun b o q hb e=>let⟨c1,c2,c3,c4⟩:=nit b q hb;kk b o c1 c2 c3 c4 e
  have hok:lr X.prog X.w (upd H s.heap.objs.size (.tup [x,y])) h₂:=fun b ob q=>by
   by_cases hb:b=s.heap.objs.size
   ·subst hb
    rw[bc] at q
    cases q
    exact⟨by show 2≤sizeLine;decide,[ux,uy], .cons ru (.cons ru' .nil),⟨_,ht₂,rfl,_,rfl⟩⟩
   ·rw[ba hb] at q
    refine(I.hok b ob q).sM (fun c v hc e=>?_) (fun c e=>sm c _ e) fun c ys e=>sm c _ e
    rcases hc with rfl | hc
    ·exact kH c v _ q e
    ·exact kH c v _ hc e
  have nch:∀b,b ∉ [z,TI,TO,i1,i2]→b≠z∧b≠TO∧b≠i1∧b≠i2:=fun b hb=>⟨fun e=>hb (by simp [e]),fun e=>hb (by simp [e]),fun e=>hb (by simp [e]),fun e=>hb (by simp [e])⟩
  have kc:∀b o,b ∉ [z,TI,TO,i1,i2]→s.heap.get? b=some o→h₂.get? b=some o:=fun b o hb e=>let⟨c1,c2,c3,c4⟩:=nch b hb;kk b o c1 c2 c3 c4 e
  have I2:Inv X pins σ (upd H s.heap.objs.size (.tup [x,y])) {s with heap:=h₂,toks:=s.toks}:=by
   refine I.step (g':=s.gens) (d':=s.drawn) (ch:=[z,TI,TO,i1,i2]) (fun b hb=>?_) (fun b o _ _ hb q _=>kc b o hb q) (fun b o _ _ hb q _=>⟨o.slots,kc b o hb q⟩)
    (fun b o hb q n=>by rw[ba (Nat.ne_of_lt (Heap.lt_size q))];exact n) (fun b o hb q=>⟨o,kc b o hb q⟩) (fun b ys e=>sm b _ e) (fun b o u e=>sm b _ e) (fun b ps e=>⟨#[],by rw[sm b _ e];simp⟩) (fun m hm=>?_) hok I.bare
   ·obtain⟨g0,g1,g2,g3,g4,g5⟩:=hf b hb
    exact⟨g3,g1,g4,g5⟩
   ·obtain⟨o,es,ep,ho,r⟩:=hm
    refine⟨o,es,ep,kc _ o (fun hb=>?_) ho,r⟩
    exact(hf _ hb).2.1 rfl
  have up:∀c,c≠z→∀o,h₁.get? c=some o→h₂.get? c=some o:=fun c hc o e=>(hs₂.2 c hc).trans e
  refine⟨.ref s.heap.objs.size,_,I2,rfl,⟨s.heap.objs.size,x,y,hn,rfl,fun zs hy'=>(by rw[I.yi hy' hq];exact hx),fun zs hy'=>(by rw[I.yi hy' hr];exact hy),rfl⟩,
   ⟨hz₂,up _ D.TIz _ (hk₁ TI _ D.TIz D.TITO D.TIi1 D.TIi2 hTI),⟨_,_,up _ D.TOz _ a2⟩,a3.at fun o e=>up _ D.i1z o e,a4.at fun o e=>up _ D.i2z o e⟩,fun c hc=>?_⟩
  have hlt:c < s.heap.objs.size:=by
   simp only[List.mem_cons,List.not_mem_nil,or_false] at hc
   rcases hc with rfl | rfl | rfl | rfl | rfl
   ·exact hzl
   ·exact Heap.lt_size hTI
   ·exact Heap.lt_size hTO
   ·exact h1.lt
   ·exact h2.lt
  rw[ba (Nat.ne_of_lt hlt)]
  exact f0 c hc
 done:=by
  intro X hP hw hK hc i pins s σ H E I hf st hg
  subst hP hw hK
  obtain⟨xs,ys,hq,hr,hl⟩:=hg
  obtain⟨its,rv,p⟩:=I.Dz hq
  obtain⟨jts,rw',p'⟩:=I.Dz hr
  obtain⟨hz,hTI,⟨a0,b0,hTO⟩,h1,h2⟩:=st
  have hT:s.TypeIs (.ref z) "zip":=⟨_,hz,rfl⟩
  have l1:=rv.length
  have l2:=rw'.length
  unfold pyNext
  refine wpAny_bind (wpAny_attempt (wpAny_callSpecial?_slot (name:=Str.ofString "__next__") hT F.slot_zip_next (wpAny_call_entry F.slot_zip_next hT F.entry_zip_next (Bj (I.ok.hd hc) D hz hTI hTO h1 h2 p p' ?_ fun h' e hk he=>?_) (F.args_zip_next_1 _))))
  ·rcases hl with hl | hl
   ·exact .inl (by simp;omega)
   ·exact .inr (by simp;omega)
  obtain⟨o,ho,hcl⟩:=he
  refine wpAny_bind (wpAny_isInstance (T:="StopIteration") (b:=true) ⟨o,ho,hcl⟩ isSubtype_stop ?_)
  have nch:∀b,b ∉ [z,TI,TO,i1,i2]→b≠z∧b≠TO∧b≠i1∧b≠i2:=fun b hb=>⟨fun e=>hb (by simp [e]),fun e=>hb (by simp [e]),fun e=>hb (by simp [e]),fun e=>hb (by simp [e])⟩
  have kc:∀b o,b ∉ [z,TI,TO,i1,i2]→s.heap.get? b=some o→h'.get? b=some o:=fun b o hb e=>let⟨c1,c2,c3,c4⟩:=nch b hb;hk b o c1 c2 c3 c4 e
  have f0:∀c∈[z,TI,TO,i1,i2],H c=none:=fun c hc=>(hf c hc).1
  have kH:∀b o q,H b=some q→s.heap.get? b=some o→h'.get? b=some o:=fun b o q hb e=>kc b o (fun z=>by rw[f0 b z] at hb;cases hb) e
  refine wpAny_pure ⟨rfl,?_⟩
  refine I.step (h':=h') (H':=H) (g':=s.gens) (d':=s.drawn) (t':=s.toks) (ch:=[z,TI,TO,i1,i2]) (fun b hb=>?_) (fun b o _ _ hb q _=>kc b o hb q) (fun b o _ _ hb q _=>⟨o.slots,kc b o hb q⟩)
   (fun b o hb q n=>n) (fun b o hb q=>⟨o,kc b o hb q⟩) (fun b ys e=>e) (fun b o u e=>e) (fun b ps e=>⟨#[],by rw[e];simp⟩) (fun m hm=>?_) (fun b ob q=>?_) I.bare
  ·obtain⟨g0,g1,g2,g3,g4,g5⟩:=hf b hb
   exact⟨g3,g1,g4,g5⟩
  ·obtain⟨o,es,ep,ho,r⟩:=hm
   refine⟨o,es,ep,kc _ o (fun hb=>?_) ho,r⟩
   exact(hf _ hb).2.1 rfl
  ·refine(I.hok b ob q).sM (fun c v hc e=>?_) (fun c e=>e) fun c ys e=>e
   rcases hc with rfl | hc
   ·exact kH c v _ q e
   ·exact kH c v _ hc e
 self:=fun A i s Q E st h=>wpAny_pyIter_zip st.1 h
section
variable {X:Cx}
noncomputable def tW(ds es:List D):List D:=(ds.zip es).map fun p=> .tup [p.1,p.2]
noncomputable def seqD?:D→Option (List D)
 | .lst ds=>some ds
 | .tup ds=>some ds
 | _=>none
noncomputable def JU(f g:FD):av→R (List D):=fun δ=>(f δ).bind fun d=>(g δ).bind fun e=>match seqD? d,seqD? e with | some ds,some es=> .ok (tW ds es) | _,_=> .no
theorem Rep.Dz{K:PySem.W.Frag}{B:List Addr}{H:Hp}{d:D}{v:V}{ds:List D}(r:Rep K B H d v)(h:seqD? d=some ds):∃t a xs,v= .ref a∧(∀B' H',dM B H B' H'→B0 t K H' a xs∧aF K B' H' ds xs):=by
 cases d with
 | lst es=>
   cases h
   obtain⟨a,xs,rfl,l,rs⟩:=Rep.lst.mp r
   exact⟨false,a,xs,rfl,fun B' H' p=>⟨(l.bp p).sq,rs.bp p⟩⟩
 | tup es=>
   cases h
   obtain⟨a,xs,rfl,l,rs⟩:=Rep.tup.mp r
   refine⟨true,a,xs,rfl,fun B' H' p=>⟨?_,rs.bp p⟩⟩
   have l':rf K B' H' a xs:=l.elim (fun z=> .inl ⟨(p.rd z.2 z.1).2,(p.rd z.2 z.1).1⟩) .inr
   exact l'.sq
 | _=>cases h
noncomputable def JS(T U:String)(f:FD):FD:=fun δ=>(f δ).bind fun d=>match d with | .dct _ _=> .no | _=> .ok (.bl (qe (tyName d) T || qe (tyName d) U))
noncomputable def Ma(lo:Int)(n:Nat):It:=⟨fun i _=>i < n,fun i H x H'=>H'=H∧x= .int (lo - i),fun i _=>n≤i⟩
noncomputable def Jd(lo:Int)(n:Nat):List D:=(List.range n).map fun(i:Nat)=>D.int (lo - i)
noncomputable def Kn(f g h:FD):av→R (List D):=fun δ=>(f δ).bind fun d=>(g δ).bind fun e=>(h δ).bind fun k=>match d,e,k with
 | .int i, .int j, .int m=>R.bC (decide (m= -1∧ -(2 ^ 60)≤i∧i < 2 ^ 60∧ -(2 ^ 60)≤j∧j < 2 ^ 60)) (.ok (Jd i (i - j).toNat)) | _,_,_=> .no
noncomputable def bls?:List D→Option (List Bool)
 | []=>some []
 | .bl b ::ds=>(bls? ds).map (b ::·)
 | _ ::_=>none
noncomputable def KZ:List D→R D
 | [.lst ds]=>(match bls? ds with | some bs=> .ok (.bl (bs.all id)) | none=> .no)
 | _=> .no
noncomputable def LK:List D→R D
 | [.lst ds]=>(match bls? ds with | some bs=> .ok (.bl (bs.any id)) | none=> .no)
 | _=> .no
end
end L2
end
section
set_option maxRecDepth 100000
set_option maxHeartbeats 4000000
namespace L2
open PySem PySem.Spec PyProof.Rows
section
variable {X:Cx}
noncomputable def LU:FS:=fun _=> .no
noncomputable def J0(f:FD):FS:=fun δ=>(f δ).bind fun _=> .ok (.nx δ)
end
end L2
namespace L3
open PySem PySem.Spec PyProof.Rows L2
section
variable {X:Cx} {cl:Nat→Addr}
noncomputable def L8:FZ:=fun _ _=> .no
noncomputable def JQ(f:av→R (List D)):FX:=fun δ S=>(R3.of (f (bX S δ)) S).bind fun ds S=>R3.bC (mC ds) (.ok (.loc S.length) (S++[.lst ds]))
noncomputable def LN(i:Nat)(f:FX):FZ:=fun δ S=>match fG δ i with
 | none=> .no
 | some k=>match cG S k with
   | none=> .no
   | some _=>(f δ S).bind fun v S1=>match v with
     | .d (.lst es)=>(match cG S1 k with
       | some ds=>R3.bC (decide (ds.length+es.length≤sizeLine)) (.ok (.nx δ) (S1.set k (.lst (ds++es))))
       | none=> .no)
     | _=> .no
end
end L3
end
section
set_option maxRecDepth 100000
set_option maxHeartbeats 4000000
namespace L2
open PySem PySem.Spec PyProof.Rows
section
variable {X:Cx}
theorem zW{prog:Program}{w:World}{A:Around}{E:Value→Shared→Prop}{s:Shared}{t b:Addr}{vs ws:List Value}{Q:Value→Shared→Prop}(ht:IsTup s.heap t vs.toArray)(hb:IsTup s.heap b ws.toArray)
 (h0:vs=[]→Q (.ref b) s) (h1:vs≠[]→ws=[]→Q (.ref t) s) (h2:vs≠[]→ws≠[]→Q (.ref s.heap.objs.size) {s with heap:=s.heap.push {cls:= .type "tuple",data:= .seq (vs++ws).toArray}})
 (hsz:vs.length+ws.length≤sizeLine):wpAny (model prog w) A (binaryOp .Add (.ref t) (.ref b)) Q E s:=by
 by_cases hv:vs=[]
 ·obtain⟨⟨cls,dd,data,sl⟩,ho,hc,n,hd⟩:=id ht;obtain⟨⟨cls2,dd2,data2,sl2⟩,ho2,hc2,n2,hd2⟩:=id hb
  simp only at hc hd hc2 hd2;subst hc hd hc2 hd2
  exact concat_meets ⟨_,ho,rfl⟩ ⟨_,ho2,rfl⟩ noFill_tuple_add seq_tuple_add PySem.F.slot_tuple_add PySem.F.entry_tuple_add (PySem.F.args_tuple_add_2 _ _) (tuple_addW0 t b vs.toArray ws.toArray n n2 dd dd2 sl sl2 (by simp [hv])) ⟨ho,ho2,h0 hv⟩
 ·exact HT.DI ht hb hv (h1 hv) (h2 hv) hsz
noncomputable def jy(d e:D):R D:=match d,e with
 | .tup a, .tup b=>R.bC (decide (a.length+b.length≤sizeLine)) (.ok (.tup (a++b)))
 | d,e=>eE d e
theorem rf.fresh{K:PySem.W.Frag}{B:List Addr}{H:Hp}{p:Addr}{xs:List V}(hb:∀a∈B,∃o,H a=some o)(hp:H p=none):rf K B (upd H p (.tup xs)) p xs:= .inl ⟨fun ha=>(by obtain⟨o,ho⟩:=hb p ha;rw [hp] at ho;cases ho), .inl bc⟩
theorem lT:ke X (binaryOp .Add) jy:=by
 intro pins s σ H B da db d x y v u I hb rx ry ra rb hg
 by_cases ht:∃a b,da= .tup a∧db= .tup b
 ·obtain⟨a,b,rfl,rfl⟩:=ht
  have hg:R.bC (decide (a.length+b.length≤sizeLine)) (.ok (.tup (a++b)))= .ok d:=hg
  obtain⟨h1,h2⟩:=R.bj hg
  cases h2
  have h1:=of_decide_eq_true h1
  have ra':=ra
  have rb':=rb
  obtain⟨a1,xs1,rfl,l1,r1⟩:=Rep.tup.mp ra
  obtain⟨a2,xs2,rfl,l2,r2⟩:=Rep.tup.mp rb
  cases rx
  cases ry
  obtain⟨its,rv1,p1,_⟩:=I.tuple l1.sq
  obtain⟨its2,rv2,p2,_⟩:=I.tuple l2.sq
  have e1:=rv1.length
  have e2:=rv2.length
  have e3:=r1.length
  have e4:=r2.length
  refine zW p1 p2 (fun z=>⟨.ref a2,H,I,rfl,aQ.refl H,?_⟩) (fun _ z=>⟨.ref a1,H,I,rfl,aQ.refl H,?_⟩) (fun _ _=>?_) (by omega)
  ·obtain rfl:a=[]:=List.eq_nil_of_length_eq_zero (by rw[e3,e1,z];rfl)
   exact rb'
  ·obtain rfl:b=[]:=List.eq_nil_of_length_eq_zero (by rw[e4,e2,z];rfl)
   rw[List.append_nil];exact ra'
  ·have hp:H s.heap.objs.size=none:=I.hok.fresh (Nat.le_refl _)
   refine⟨.ref s.heap.objs.size,_,I.laid (t':=s.toks) (o:= .tup (xs1++xs2)) (fun b ob q=>Heap.get?_push_of_some _ q) (Nat.le_refl _) ⟨by rw[List.length_append];omega,_,rv1.append rv2,IsTup.new _ _⟩,rfl,bo hp,Rep.tup.mpr ⟨_,_,rfl,rf.fresh hb hp,(r1.append r2).same (bo hp)⟩⟩
 ·have hg:eE da db= .ok d:=by
   unfold jy at hg
   split at hg
   ·exact absurd ⟨_,_,rfl,rfl⟩ ht
   ·exact hg
  exact gx pins s σ H B da db d x y v u I hb rx ry ra rb hg
theorem w_.or{tg e:Expr}{F F1 F2:av→R (List D)}(h1:w_ X tg e F1)(h2:w_ X tg e F2)(h:∀δ ds,F δ= .ok ds→F1 δ= .ok ds∨F2 δ= .ok ds):w_ X tg e F:=
 ⟨fun pins s σ H R I ⟨Z,B,δ,ds,E,hf,q⟩=>(h δ ds hf).elim (fun z=>h1.1 pins s σ H R I ⟨Z,B,δ,ds,E,z,q⟩) fun z=>h2.1 pins s σ H R I ⟨Z,B,δ,ds,E,z,q⟩⟩
noncomputable def xi(f:FD):av→R (List D):=fun δ=>(f δ).bind fun d=>match d with | .lst ds=> .ok (dO ds) | .tup ds=> .ok (dO ds) | _=> .no
theorem vF{elts:List Expr}{k:Nat}{tpos:Pos}{a:Expr}{f:FD}{p pos:Pos}(h:QD X a f)(hg:Gl X "enumerate")(hm:X.mg "enumerate"=none)(hs:starEach [a] X.env=[(false,eval a X.env)]:=by rfl):w_ X (.Tuple elts k tpos) (.Call (.Name "enumerate" p) [a] [] pos) (xi f):=
 w_.or (F1:=ji f) (F2:=sH f) ⟨vc h.1 hg hm hs⟩ (vB h hg hm hs) fun δ ds hf=>by
  obtain⟨d,h1,h2⟩:=R.ak hf
  cases d with
  | lst es=>cases h2;exact .inl (by unfold ji;rw [h1];rfl)
  | tup es=>cases h2;exact .inr (by unfold sH;rw [h1];rfl)
  | _=>cases h2
noncomputable def Lr(K:PySem.W.Frag)(a:Addr)(n:Nat):It:=
 ⟨fun i H=>∃xs x,mD K H a xs∧xs.length=n∧i < n∧xs[n - 1 - i]? =some x,fun i H v H'=>H'=H∧∀xs,mD K H a xs→xs[n - 1 - i]? =some v,fun i H=>(∃xs,mD K H a xs)∧i=n⟩
theorem zL{P:Program}{w:World}{K:PySem.W.Frag}{tg:Expr}(a it:Addr)(n:Nat):Turn P w K tg (Lr K a n) [it] it (fun i h=>h.IsRevIter it a ((n:Int) - 1 - (i:Int))) where
 mem:=by simp
 obj:=fun i h st b hb=>by
  have e:b=it:=by simpa using hb
  subst e
  obtain⟨o,e,c,d⟩:=st
  exact⟨o,e,fun v z=>by rw[d] at z;cases z⟩
 keep:=fun i h h' st k=>st.at fun o e=>k it (by simp) o e
 item:=by
  intro X hP hw hK hc i pins s σ H E I hf st hg
  subst hP hw hK
  obtain⟨xs,x,hq,hn,hi,hx⟩:=hg
  obtain⟨its,rv,p,hz⟩:=I.list hq
  obtain⟨u,hu,ru⟩:=rv.get hx
  obtain⟨f0,f1,f2,f3,f4,f5⟩:=hf it (by simp)
  have e0:(n:Int) - 1 - (i:Int)=((n - 1 - i:Nat):Int):=by omega
  rw[e0] at st
  refine wpAny_pyNext_rev_item st p.isList (x:=u) (by simpa using hu) fun h' st' sb=>?_
  have I1:Inv X pins σ H {s with heap:=h'}:=I.turned (t':=s.toks) (fun b o hb e=>(sb.2 b hb).trans e) f0 f1 f3 f4 f5
  have st2:h'.IsRevIter it a ((n:Int) - 1 - ((i+1:Nat):Int)):=by
   rw[show((n - 1 - i:Nat):Int) - 1=(n:Int) - 1 - ((i+1:Nat):Int) by omega] at st';exact st'
  obtain⟨o,e,c,d⟩:=id st2
  exact⟨u,rfl,yf (s:={s with heap:=h'}) e c d (by decide) ⟨x,H,I1,ru,⟨rfl,fun ys hy=>by rw[I.ng hy hq];exact hx⟩,st2,fun b hb=>(hf b hb).1⟩⟩
 done:=by
  intro X hP hw hK hc i pins s σ H E I hf st hg
  subst hP hw hK
  obtain⟨_,rfl⟩:=hg
  obtain⟨f0,f1,f2,f3,f4,f5⟩:=hf it (by simp)
  rw[show(i:Int) - 1 - (i:Int)= -1 by omega] at st
  exact wpAny_pyNext_rev_end (I.ok.hd hc) st fun h' eb=>⟨rfl,I.turned (t':=s.toks) (fun b o hb e=>eb b o hb e) f0 f1 f3 f4 f5⟩
 self:=fun _ _ _ _ _ st h=>wpAny_pyIter_revIter st h
noncomputable def Ek(f:FD):av→R (List D):=fun δ=>(f δ).bind fun d=>match d with | .lst ds=> .ok ds.reverse | _=> .no
theorem Ah{tg a:Expr}{f:FD}{p pos:Pos}(h:QD X a f)(hg:Gl X "reversed")(hm:X.mg "reversed"=none)(hs:starEach [a] X.env=[(false,eval a X.env)]:=by rfl):w_ X tg (.Call (.Name "reversed" p) [a] [] pos) (Ek f):=by
 refine⟨?_⟩
 intro pins s σ H RR I ⟨Z,B,δ,ds,E,hf,q⟩
 obtain⟨d,h1,h2⟩:=R.ak hf
 have hA:=gJ h.1 jf hs pos pins s σ H (fun vs H1=>aQ H H1∧∃v,vs=[v]∧Rep X.K B H1 d v) I ⟨Z,B,δ,d,E,h1,fun v H1 s1 r1=>⟨s1,v,rfl,r1⟩⟩
 refine Call_ (j0 I hg hm boot_reversed (PyProof.Rows.callWith_type1 (d5 hA fun us s1 ⟨vs,H1,I1,r1,ss,v,ev,rr⟩=>?_) hs rfl))
 subst ev
 obtain⟨u,rfl,ru⟩:=vals1 r1
 cases d with
 | lst es=>
   cases h2
   obtain⟨b,xs,rfl,l,rs⟩:=Rep.lst.mp rr
   cases ru
   obtain⟨its,rv,pl,hz⟩:=I1.list l.sq
   have e1:=rv.length
   have e2:=rs.length
   refine call_reversed_list pl.isList (wpAny_pyIter_revIter (i:=(its.toArray.size:Int) - 1) ⟨_,Heap.get?_push_size _ rfl,rfl,rfl⟩ ?_)
   refine⟨s1.heap.objs.size,[s1.heap.objs.size],_,_,H1,rfl,I1.kept (t':=s1.toks) fun b o e=>Heap.get?_push_of_some _ e,zL b _ es.length,?_,fun c hc=>?_,q _ H1 ss fun B' H' pr=>?_⟩
   ·refine⟨_,Heap.get?_push_size _ rfl,rfl,?_⟩
    show Data.fields #[.ref b,rawInt ((its.toArray.size:Int) - 1)]=Data.fields #[.ref b,rawInt ((es.length:Int) - 1 - ((0:Nat):Int))]
    rw[List.size_toArray,←e1,←e2,show((es.length:Nat):Int) - 1 - ((0:Nat):Int)=(es.length:Int) - 1 by omega]
   ·have e:c=s1.heap.objs.size:=by simpa using hc
    subst e
    exact I1.qF (Nat.le_refl _) (I1.hok.fresh (Nat.le_refl _))
   ·have l':qN X.K B' H' b xs:=l.bp pr
    have rs':=rs.bp pr
    refine⟨fun i d hd=>?_,⟨xs,l'.sq⟩,by rw[List.length_reverse]⟩
    have hi:i < es.length:=by have:=(List.getElem?_eq_some_iff.mp hd).1;rwa [List.length_reverse] at this
    rw[List.getElem?_reverse hi] at hd
    obtain⟨x,hx,rx⟩:=rs'.get hd
    refine⟨⟨xs,x,l'.sq,e2.symm,hi,hx⟩,fun v H'' yl hB'=>?_⟩
    obtain⟨rfl,hy⟩:=yl
    have hy2:=hy xs l'.sq
    rw[hx] at hy2
    cases hy2
    exact⟨aQ.refl _,rx⟩
 | _=>cases h2
noncomputable def oK(K:PySem.W.Frag)(C:Addr)(m qual:Str)(st:Stmt):Prop:=∃f fd,yc K m qual st f fd∧Meth K C m f
noncomputable def zc(K:PySem.W.Frag)(C:Addr)(m qual:Str)(st:Stmt):Prop:=∃f fd,yc K m qual st f fd∧Mk K C f
end
end L2
namespace L3
open PySem PySem.Spec PyProof.Rows L2
section
variable {X:Cx} {cl:Nat→Addr}
theorem ft.p{P:Program}{w:World}{K:PySem.W.Frag}{mg:Str→Option Value}{base:Heap}{cl:Nat→Addr}{k c:Nat}{m:Str}{n:Nat}{N:List Str}{F:FZ}(C:ft P w K mg base cl k c m n (mi N F)):ft P w K mg base cl k c m n (n4 N F):=
 let⟨f,fd,ps,c1,c2,F,h⟩:=C;⟨f,fd,ps,c1,c2,F.imp fun _ _ _ _ h=>vT h,h⟩
end
end L3
end
section
set_option maxRecDepth 100000
set_option maxHeartbeats 4000000
namespace L2
open PySem PySem.Spec PyProof.Rows
section
variable {X:Cx}
noncomputable def Gp(f:FD):av→R (List D):=fun δ=>(f δ).bind fun d=>match d with | .int j=>R.bC (decide (-(2 ^ 62)≤j∧j < 16777216)) (.ok (cc 0 j.toNat)) | _=> .no
theorem Cm{a:Expr}{f:FD}{p p2 pos pos2:Pos}(hc:X.calm=true)(h:QD X a f)(hg:Gl X "list")(hm:X.mg "list"=none)(hg2:Gl X "range")(hm2:X.mg "range"=none)(hs:starEach [a] X.env=[(false,eval a X.env)]:=by rfl)
 (hs2:starEach [.Call (.Name "range" p2) [a] [] pos2] X.env=(false,eval (.Call (.Name "range" p2) [a] [] pos2) X.env) ::starEach [] X.env:=by rfl) (hpl:(backTo pos (starEach [] X.env)).any (·.1)=false:=by rfl) :
 QN X (.Call (.Name "list" p) [.Call (.Name "range" p2) [a] [] pos2] [] pos) (Gp f):=by
 refine⟨?_⟩
 intro pins s σ H Q I ⟨Z,B,δ,ds,E,hf,q⟩
 obtain⟨d1,h1,h2⟩:=R.ak hf
 have key:∃j:Int,d1= .int j∧ -(2 ^ 62)≤j∧j < 16777216∧ds=cc 0 j.toNat:=by
  split at h2
  ·obtain⟨h3,h4⟩:=R.bj h2
   cases h4
   have h3:=of_decide_eq_true h3
   exact⟨_,rfl,h3.1,h3.2,rfl⟩
  ·cases h2
 obtain⟨j,rfl,hj1,hj2,rfl⟩:=key
 refine wpAny_Call_Name_kw (j0 I hg hm boot_list ?_ (by decide) (by decide))
 refine PyProof.Rows.callWith_type1 ?_ hs2 hpl
 rw[hs2]
 show wpAny _ _ (spliced ((false,eval (.Call (.Name "range" p2) [a] [] pos2) X.env) ::backTo pos (starEach [] X.env))) _ _ s
 refine Calls.spliced_cons ?_
 have hA:=gJ h.1 jf hs pos2 pins s σ H (fun vs H1=>aQ H H1∧vs=[.int j]) I ⟨Z,B,δ, .int j,E,h1,fun v H1 s1 r1=>⟨s1,by rw[Rep.int.mp r1]⟩⟩
 refine Call_ (j0 I hg2 hm2 boot_range (PyProof.Rows.callWith_type1 (d5 hA fun us s1 ⟨vs,H1,I1,r1,ss,ev⟩=>?_) hs rfl))
 subst ev
 obtain⟨u,rfl,ru⟩:=vals1 r1
 obtain⟨t,rfl⟩:=ru
 refine call_range_1 ?_
 have I2:Inv X pins σ H1 {s1 with heap:=s1.heap.push {cls:= .type "range",data:= .fields #[.int 0 s1.toks, .int j t, .int 1 (s1.toks+1)]},toks:=s1.toks+1+1}:=I1.kept fun b o e=>Heap.get?_push_of_some _ e
 refine Calls.spliced_nil ?_
 have hsz:Builtin.Range.rangeSize 0 j 1=(j.toNat:Nat):=by rw[rangeSize_one];split <;> omega
 have hz:sizeLine=16777216:=sizeLine_eq
 refine call_list_range (n:=j.toNat) (I2.ok.hd hc) (IsRange.new ..) (small_one (by omega) (by omega) (by omega) (by omega)) hsz (by omega) fun h' tk acc c' hk hget hacc=>?_
 have rv:=wW hacc
 have hle:((List.range j.toNat).map fun(i:Nat)=>V.int (0+(i:Int))).length≤sizeLine:=by rw[List.length_map,List.length_range];omega
 have hf':H1 (s1.heap.push {cls:= .type "range",data:= .fields #[.int 0 s1.toks, .int j t, .int 1 (s1.toks+1)]}).objs.size=none:=I2.hok.fresh (Nat.le_refl _)
 have I4:=I2.laid (o:= .lst ((List.range j.toNat).map fun(i:Nat)=>V.int (0+(i:Int)))) (h':=h') (t':=tk) hk (Nat.le_refl _) (show e_ X.prog X.w _ _ _ (.lst _) from⟨hle,acc.toList,c',rv,by simpa using hget⟩)
 exact⟨.ref _,_,I4,rfl,q _ _ _ (ss.trans (bo hf')) (ss.free hf') bc (tY _)⟩
noncomputable def Kz(f:FD):FD:=fun δ=>(f δ).bind fun d=>match d with | .lst ds=> .ok (.lst ds.reverse) | _=> .no
end
end L2
end
section
set_option maxRecDepth 100000
set_option maxHeartbeats 4000000
namespace L2
open PySem PySem.Spec PyProof.Rows
section
variable {X:Cx}
noncomputable def LD(K:PySem.W.Frag)(n:Nat)(t:BH):TG:=fun v σ H Q=>∃a xs,v= .ref a∧mD K H a xs∧xs.length=n∧t xs σ H Q
end
end L2
namespace L3
open PySem PySem.Spec PyProof.Rows L2
section
variable {X:Cx} {cl:Nat→Addr}
noncomputable def LY(n:Nat)(t:CT):FG:=fun d δ=>match d with
 | .d (.lst ds)=>if ds.length=n then t (ds.map .d) δ else none
 | .lst vs=>if vs.length=n then t vs δ else none
 | _=>none
noncomputable def E7(f g:FX):FA:=fun δ S=>(aA f (aA g cR) δ S).bind fun vs S1=>match vs with
 | [.d d, .d e]=>(match seqD? d,seqD? e with | some ds,some es=> .ok ((tW ds es).map .d) S1 | _,_=> .no)
 | _=> .no
theorem CL{elts:List Expr}{k:Nat}{tpos:Pos}{a b:Expr}{f g:FX}{p pos:Pos}(h:PX X cl a f)(h':PX X cl b g)(hg:Gl X "zip")(hm:X.mg "zip"=none)(hs:starEach [a,b] X.env=[(false,eval a X.env),(false,eval b X.env)]:=by rfl)(hs2:starEach [b] X.env=[(false,eval b X.env)]:=by rfl) :
 EV X cl (.Tuple elts k tpos) (.Call (.Name "zip" p) [a,b] [] pos) (E7 f g):=by
 refine⟨?_⟩
 intro pins s σ H RR I ⟨ρ,S,δ,vs,S',E,hf,q⟩
 obtain⟨ws,S1,h1,h2⟩:=R3.ak hf
 have hA:=(ao h (ao h' aT hs2) (by rw[hs,hs2])).1 pos pins s σ H (fun us H1=>∃ρ1,Pre ρ H ρ1 H1∧SW X.K cl ρ1 H1 S1∧aC X.K ρ1 H1 ws us) I
  ⟨ρ,S,δ,ws,S1,E,h1,fun us ρ1 H1 p1 w1 r1=>⟨ρ1,p1,w1,r1⟩⟩
 refine Call_ (j0 I hg hm boot_zip (PyProof.Rows.callWith_type1 (d5 hA fun us s1 ⟨xs,H1,I1,r1,ρ1,p1,w1,rr⟩=>?_) (by rw[hs,hs2]) (by rw[hs2];rfl)))
 rcases hsh:ws with _ | ⟨w0,_ | ⟨w2,_ | ⟨w3,wr⟩⟩⟩ <;> subst hsh
 ·cases h2
 ·cases w0 <;> cases h2
 ·rcases w0 with d | _ | _ | _ <;> rcases w2 with e | _ | _ | _ <;> try (cases h2;done)
  have h2:(match seqD? d,seqD? e with | some ds,some es=>R3.ok ((tW ds es).map V3.d) S1 | _,_=> .no)= .ok vs S':=h2
  cases e1:seqD? d with
  | none=>rw [e1] at h2;cases h2
  | some ls=>
    cases e2:seqD? e with
    | none=>rw [e1,e2] at h2;cases h2
    | some ms=>
      rw[e1,e2] at h2
      cases h2
      obtain⟨v,ys,ev,ra,rr⟩:=rr.cn
      obtain⟨v',zs,ev',rb,rr⟩:=rr.cn
      unfold aC at rr
      subst rr ev' ev
      obtain⟨u,u',rfl,ru,ru'⟩:=vals2 r1
      unfold br at ra rb
      obtain⟨t,a,xs,rfl,k1⟩:=ra.Dz e1
      obtain⟨w,b,ys,rfl,k2⟩:=rb.Dz e2
      cases ru
      cases ru'
      obtain⟨its,rv,pp⟩:=I1.Dz (k1 ρ1.b H1 (dM.refl _ H1)).1
      obtain⟨jts,rw',pp'⟩:=I1.Dz (k2 ρ1.b H1 (dM.refl _ H1)).1
      have la:=pp.lt
      have lb:=pp'.lt
      refine yZ pp pp' fun h₂ hz hTI hTO hi1 hi2 kk=>wpAny_pyIter_zip hz ?_
      have I2:Inv X pins σ H1 {s1 with heap:=h₂}:=I1.kept (t':=s1.toks) kk
      refine⟨s1.heap.objs.size+4,[s1.heap.objs.size+4,s1.heap.objs.size+2,s1.heap.objs.size+3,s1.heap.objs.size,s1.heap.objs.size+1],_,_,H1,rfl,I2,Ap (t:=t) (u:=w) (zipApart_new la lb),⟨hz,hTI,⟨_,_,hTO⟩,hi1,hi2⟩,fun c hc=>?_,q _ ρ1 H1 p1 w1 (GD.of fun B' H' pr=>?_)⟩
      ·have hle:s1.heap.objs.size≤c:=by
        simp only[List.mem_cons,List.not_mem_nil,or_false] at hc
        rcases hc with rfl | rfl | rfl | rfl | rfl <;> omega
       exact I1.qF hle (I1.hok.fresh hle)
      ·obtain⟨l1,rs1⟩:=k1 B' H' pr
       obtain⟨l2,rs2⟩:=k2 B' H' pr
       refine⟨fun i d hd=>?_,⟨xs,ys,l1,l2,?_⟩⟩
       ·unfold tW at hd
        rw[List.getElem?_map] at hd
        cases ez:(ls.zip ms)[i]? with
        | none=>rw [ez] at hd;cases hd
        | some pr'=>
          rw[ez] at hd
          have hd:D.tup [pr'.1,pr'.2]=d:=Option.some.inj hd
          obtain⟨ea,eb⟩:=List.getElem?_zip_eq_some.mp ez
          obtain⟨x,hx,rx⟩:=rs1.get ea
          obtain⟨y,hy,ry⟩:=rs2.get eb
          refine⟨⟨xs,ys,x,y,l1,l2,hx,hy⟩,fun v H'' yl hB'=>?_⟩
          obtain⟨p,x2,y2,hp,rfl,hx2,hy2,rfl⟩:=yl
          refine⟨bo hp,?_⟩
          subst hd
          have hx2:=hx2 xs l1
          have hy2:=hy2 ys l2
          rw[hx] at hx2;cases hx2
          rw[hy] at hy2;cases hy2
          refine Rep.tup.mpr ⟨p,_,rfl, .inl ⟨fun ha=>?_, .inl bc⟩,aF.cons (rx.same (bo hp)) (aF.cons (ry.same (bo hp)) aF.nil)⟩
          obtain⟨o,ho⟩:=hB' p ha
          rw[hp] at ho;cases ho
       ·rw[←rs1.length,←rs2.length]
        unfold tW
        rw[List.length_map,List.length_zip]
        omega
 ·cases w0 <;> cases w2 <;> cases h2
theorem H_{f g:FX}{δ:DE}{S:aN}{Q:List V3→aN→Prop}(h:W3 (f δ S) fun v S1=>W3 (g δ S1) fun w S2=>∃d e ds es,v= .d d∧w= .d e∧seqD? d=some ds∧seqD? e=some es∧Q ((tW ds es).map .d) S2):W3 (E7 f g δ S) Q:=
 W3.bind (W3.bind (h.mono fun v S1 h2=>W3.bind (W3.bind (h2.mono fun w S2 ⟨d,e,ds,es,e1,e2',e3,e4,q⟩=>by
  subst e1 e2'
  exact W3.bind (W3.ok (W3.ok (W3.ok (by simp only[e3,e4];exact W3.ok q))))))))
noncomputable def wA(S:aN):Prop:=∀o∈S,oQ S.length o=true
theorem Flat.J7{S:aN}(h:Flat S):wA S:=fun o ho=>h o ho _
theorem GN{N:List Str}{F:FZ}{vs:List V3}{S:aN}{QV:V3→aN→Prop}(h:W3 (mi N F vs S) fun v S1=>(∀o∈S1.take S.length,oQ S.length o=true)∧eO S.length v=true∧∃d,res S1 v=some d∧QV (.d d) (S1.take S.length)):W3 (n4 N F vs S) QV:=
 W3.bind (h.mono fun v S1 ⟨hl,hg,d,e,q⟩=>by
  rw[e]
  exact W3.wh (by rw[List.all_eq_true.mpr hl,hg];rfl) (W3.ok q))
theorem mq{N:List Str}{F:FZ}{vs:List V3}{S:aN}{QV:V3→aN→Prop}(hS:wA S)(h:W3 (mi N F vs S) fun v S1=>eO S.length v=true∧(∃T,S1=S++T)∧∃d,res S1 v=some d∧QV (.d d) S):W3 (n4 N F vs S) QV:=
 GN (h.mono fun v S1 ⟨hg,⟨T,e1⟩,d,e,q⟩=>by
  subst e1
  rw[List.take_append_of_le_length (Nat.le_refl _),List.take_length]
  exact⟨hS,hg,d,e,q⟩)
end
end L3
end
section
set_option maxRecDepth 100000
set_option maxHeartbeats 4000000
namespace L2
open PySem PySem.Spec PyProof.Rows
section
variable {X:Cx}
noncomputable def ois?:List D→Option (List (Option Int))
 | []=>some []
 | .int i ::ds=>(ois? ds).map (some i ::·)
 | .dk ::ds=>(ois? ds).map (none ::·)
 | _ ::_=>none
noncomputable def Mf:Option Int→V | some i=> .int i | none=> .dk
noncomputable def Kv(d e:D):R Bool:=match d,e with
 | .dk, .lst ds=>(match ois? ds with | some ss=> .ok (ss.any (·.isNone)) | none=> .no)
 | _,_=> .no
noncomputable def Lp(d e:D):R D:=(Kv d e).bind fun b=> .ok (.bl b)
end
end L2
end
section
set_option maxRecDepth 100000
set_option maxHeartbeats 4000000
namespace L2
open PySem PySem.Spec PyProof.Rows
section
variable {X:Cx}
noncomputable def IY(d:D)(ds:List D):R D:=match d,ds with
 | .lst es,[.int k]=>(match ints? es with | some ss=> .ok (.int (ss.count k:Nat)) | none=> .no)
 | _,_=> .no
end
end L2
end
section
set_option maxRecDepth 100000
set_option maxHeartbeats 4000000
namespace L2
open PySem PySem.Spec PyProof.Rows
section
variable {X:Cx}
noncomputable abbrev KS:D→D→R D:=tI (fun i j=>decide (0≤j∧j < 1000∧ -1000 < i∧i < 1000)) fun i j=>i*2 ^ j.toNat
noncomputable def Ko(d e:D):R D:=match d,e with | .bl a, .bl b=> .ok (.bl (a !=b)) | _,_=> .no
end
end L2
namespace L3
open PySem PySem.Spec PyProof.Rows L2
section
variable {X:Cx} {cl:Nat→Addr}
noncomputable def Kc(fo f:FX):FZ:=fun δ S=>(fo δ S).bind fun o S0=>match o with
 | .loc k=>(match cG S0 k with
   | none=> .no
   | some _=>(f δ S0).bind fun v S1=>match v with
     | .d d=>(match cG S1 k with | some ds=>R3.bC (decide (ds.length < sizeLine)) (.ok (.nx δ) (S1.set k (.lst (ds++[d])))) | none=> .no)
     | _=> .no)
 | _=> .no
noncomputable def Kl(f:FX):FA:=fun δ S=>(aA f cR δ S).bind fun vs S1=>match vs with
 | [.d (.lst ds)]=> .ok ((dO ds).map .d) S1
 | _=> .no
end
end L3
end
section
set_option maxRecDepth 100000
set_option maxHeartbeats 4000000
namespace L2
open PySem PySem.Spec PyProof.Rows
section
variable {X:Cx}
end
end L2
end
section
set_option maxRecDepth 100000
set_option maxHeartbeats 4000000
namespace L3
open PySem PySem.Spec PyProof.Rows L2
section
variable {cl:Nat→Addr}
noncomputable def JJ(it:FA)(t:FG)(c:FB)(f:FX)(own:List Str)(kp:List Nat):FX:=fun δ S=>(it δ S).bind fun vs S1=>R3.bC (decide (vs.length≤sizeLine)) ((kQ t c f (gr own kp δ) vs S1).bind fun ys S2=>match jE ys with | some ds=> .ok (.loc S2.length) (S2++[.lst ds]) | none=> .no)
end
section
variable {X:Cx} {cl:Nat→Addr}
end
end L3
end
section
set_option maxRecDepth 100000
set_option maxHeartbeats 4000000
namespace L3
open PySem PySem.Spec PyProof.Rows L2
section
variable {X:Cx} {cl:Nat→Addr}
noncomputable def IP(g:List D→R D)(fs:FA):FX:=fun δ S=>(fs δ S).bind fun vs S1=>match kJ S1 vs with
 | some ds=>(R3.of (g ds) S1).bind fun d S=>R3.bC (ka d) (.ok (.d d) S)
 | none=> .no
end
end L3
end
section
set_option maxRecDepth 100000
set_option maxHeartbeats 4000000
namespace L2
open PySem PySem.Spec PyProof.Rows
section
variable {X:Cx}
noncomputable def Lb(f:FD):FD:=fun δ=>(f δ).bind fun d=>match d with | .int i=> .ok (.int (-i - 1)) | _=> .no
noncomputable def Le(d:D)(lo hi:Option Int):R D:=match d with
 | .tup ds=>R.bC (decide (¬(HT.o8 ds.length 0 lo=0∧HT.o8 ds.length ds.length hi=ds.length))) (.ok (.tup (cutD ds lo hi)))
 | _=> .no
noncomputable def Ky(f:FD)(fl fh:FO):FD:=fun δ=>(f δ).bind fun d=>(fl δ).bind fun lo=>(fh δ).bind fun hi=>Le d lo hi
end
end L2
namespace L3
open PySem PySem.Spec PyProof.Rows L2
section
variable {X:Cx} {cl:Nat→Addr}
structure L_ (X:Cx) (cl:Nat→Addr) (st:List Stmt) (F:FZ):Prop where
 go:sE X st (fun D σ H=>D.ct=D.nx∧sX X.K cl F D σ H)
end
end L3
end
section
set_option maxRecDepth 100000
set_option maxHeartbeats 4000000
namespace L2
open PySem PySem.Spec PyProof.Rows
end L2
namespace L3
open PySem PySem.Spec PyProof.Rows L2
section
variable {X:Cx} {cl:Nat→Addr}
noncomputable def Lo(i:Nat)(f:FX):FX:=fun δ S=>match fG δ i with
 | none=> .no
 | some k=>match cG S k with
   | none=> .no
   | some _=>(f δ S).bind fun v S1=>match v with
     | .d (.int j)=>(match cG S1 k with
       | some ds=>(match pW ds.length j with
         | some p=>(match ds[p]? with | some d=>R3.bC (decide (-(2 ^ 63)≤j∧j < 2 ^ 63)) (.ok (.d d) (S1.set k (.lst (ds.eraseIdx p)))) | none=> .no)
         | none=> .no)
       | none=> .no)
     | _=> .no
end
end L3
end
section
set_option maxRecDepth 100000
set_option maxHeartbeats 4000000
namespace L3
open PySem PySem.Spec PyProof.Rows L2
section
variable {X:Cx} {cl:Nat→Addr}
noncomputable def KN(f:FX)(fl fh:GK):FX:=fun δ S=>(f δ S).bind fun v S1=>(fl δ S1).bind fun lo S2=>(fh δ S2).bind fun hi S3=>match v with
 | .lst vs=> .ok (.lst (L2.cutD vs lo hi)) S3
 | _=> .no
end
end L3
end
section
set_option maxRecDepth 100000
set_option maxHeartbeats 4000000
namespace L2
open PySem PySem.Spec PyProof.Rows
section
variable {X:Cx}
noncomputable def IF:List V→Hp→VK→Prop:=fun xs H Q=>∃a kvs ns,xs=[V.ref a]∧H a=some (.dK kvs)∧kvs.map (·.1)=ns.map Sum.inl∧ns.length < 64∧∀p,H p=none→Q (.ref p) (upd H p (.lst ((BS ns).map V.int)))
end
end L2
end
section
set_option maxRecDepth 100000
set_option maxHeartbeats 4000000
namespace L3
open PySem PySem.Spec PyProof.Rows L2
section
variable {X:Cx} {cl:Nat→Addr}
noncomputable def GV(kvs:List (Key × D))(k:Key)(d:D):List (Key × D):=if(kvs.any fun kv=>decide (kv.1=k))=true then kvs.map (fun kv=>if kv.1=k then(kv.1,d) else kv) else kvs++[(k,d)]
noncomputable def x5(S:aN)(k:Nat):Option (List (Key × D)):=match S[k]? with | some (.dct kvs)=>some kvs | _=>none
noncomputable def Ks:FX:=fun δ S=> .ok (.loc S.length) (S++[.dct []])
noncomputable def Ku(fo fi fe:FX):FZ:=fun δ S=>(fe δ S).bind fun v S1=>(fo δ S1).bind fun o S2=>(fi δ S2).bind fun j S3=>match v,o,j with
 | .d d, .loc k, .d (.int n)=>(match x5 S3 k with | some kvs=>R3.bC (decide (kvs.length < sizeLine)) (.ok (.nx δ) (S3.set k (.dct (GV kvs (Sum.inl n) d)))) | none=> .no)
 | _,_,_=> .no
noncomputable def K4(fa fo:FX):FX:=fun δ S=>(fa δ S).bind fun j S1=>(fo δ S1).bind fun o S2=>match j,o with
 | .d (.int n), .loc k=>(match x5 S2 k with | some kvs=> .ok (.d (.bl (kvs.any fun kv=>decide (kv.1=Sum.inl n)))) S2 | none=> .no)
 | _,_=> .no
noncomputable def intK?:List Key→Option (List Int)
 | []=>some []
 | .inl n ::ks=>(intK? ks).map (n ::·)
 | .inr _ ::_=>none
noncomputable def Jk(f:FX):FX:=fun δ S=>(f δ S).bind fun o S1=>match o with
 | .loc k=>(match x5 S1 k with
   | some kvs=>(match intK? (kvs.map (·.1)) with | some ns=>R3.bC (decide (ns.length < 64)) (.ok (.d (.lst ((BS ns).map .int))) S1) | none=> .no)
   | none=> .no)
 | _=> .no
end
end L3
end
section
set_option maxRecDepth 100000
set_option maxHeartbeats 4000000
namespace L2
open PySem PySem.Spec PyProof.Rows
section
variable {X:Cx}
noncomputable def Iu:V→List V→Hp→VK→Prop:=fun x vs H Q=>∃(l:Addr) (xs:List V) (j:Int) (i:Nat) (y:V),x= .ref l∧vs=[.int j,y]∧H l=some (.lst xs)∧j=i∧i≤xs.length∧xs.length < sizeLine∧Q .dk (upd H l (.lst (xs.take i++y ::xs.drop i)))
end
end L2
namespace L3
open PySem PySem.Spec PyProof.Rows L2
section
variable {X:Cx} {cl:Nat→Addr}
noncomputable def LP(i:Nat)(f g:FX):FZ:=fun δ S=>match fG δ i with
 | none=> .no
 | some k=>match cG S k with
   | none=> .no
   | some _=>(f δ S).bind fun v S1=>match v with
     | .d (.int j)=>(g δ S1).bind fun w S2=>(match w with
       | .d d=>(match cG S2 k with
         | some ds=>R3.bC (decide (0≤j∧j.toNat≤ds.length∧ds.length < sizeLine)) (.ok (.nx δ) (S2.set k (.lst (ds.take j.toNat++d ::ds.drop j.toNat))))
         | none=> .no)
       | _=> .no)
     | _=> .no
end
end L3
end
section
set_option maxRecDepth 100000
set_option maxHeartbeats 4000000
namespace L3
open PySem PySem.Spec PyProof.Rows L2
section
variable {X:Cx} {cl:Nat→Addr}
structure LV (X:Cx) (pos:Pos) (keys:List (Option Expr)) (values:List Expr) (ks:List Str) (g:av→R (List D)):Prop where
 h:∃trs,Fm X pos keys values trs∧∀(σ:L2.St) (H:Hp) (Q:List (V × V)→Hp→Prop),(∃Z B δ ds,dX X.K Z B H σ δ∧g δ= .ok ds∧∀vs H',aQ H H'→aF X.K B H' ds vs→Q ((ks.zip vs).map fun p=>(V.str p.1,p.2)) H')→nQ trs σ H Q
noncomputable def Gi(ks:List Str)(ns:List Int):List (Key × D):=(ks.zip ns).foldl (fun acc p=>GV acc (Sum.inr p.1) (.int p.2)) []
noncomputable def Jl(ks:List Str)(g:av→R (List D)):FX:=fun δ S=>(R3.of (g (down δ)) S).bind fun ds S=>match ints? ds with
 | some ns=>R3.bC (decide (ns.length=ks.length∧ks.length≤15)) (.ok (.loc S.length) (S++[.dct (Gi ks ns)]))
 | none=> .no
noncomputable def JI(kvs:List (Key × D))(k:Key):Option D:=(kvs.find? fun kv=>decide (kv.1=k)).map (·.2)
noncomputable def Kg(i:Nat)(f g:FD):FX:=fun δ S=>match fG δ i with
 | none=> .no
 | some k=>match x5 S k with
   | none=> .no
   | some kvs=>(R3.of (f (down δ)) S).bind fun kd S=>(R3.of (g (down δ)) S).bind fun d S=>match kd with
     | .str x=> .ok (.d ((JI kvs (Sum.inr x)).getD d)) S
     | _=> .no
end
end L3
end
section
set_option maxRecDepth 100000
set_option maxHeartbeats 4000000
namespace L2
open PySem PySem.Spec PyProof.Rows
section
variable {X:Cx}
noncomputable def ug:List D→R D
 | [.tup ds]=>(match ints? ds with | some ns=> .ok (.int ns.sum) | none=> .no)
 | ds=>Eu ds
theorem wQ(hc:X.calm=true):cZ X (.builtin "sum") ug:=by
 intro pins s σ H B ds d xs us I hb rx rs hg
 unfold ug at hg
 split at hg
 ·split at hg
  ·rename_i es ns e
   cases hg
   obtain⟨x,rfl,r⟩:=rs.one
   obtain⟨a,ys,rfl,l,r⟩:=Rep.tup.mp r
   obtain⟨u,rfl,ru⟩:=vals1 rx
   cases ru
   obtain⟨its,rv,ht,hz⟩:=I.tuple l.sq
   rw[eW r e] at rv
   obtain⟨ps,rfl,rfl⟩:=fq rv
   have hl:s.heap.IsTuple a (intItems ps.toArray):=by
    have ht:s.heap.IsTuple a (ps.map fun p=>Value.int p.1 p.2).toArray:=ht
    simpa [intItems] using ht
   refine PySem.W.ktm_sumG (I.ok.hd hc) hl fun h' tk t' k=>⟨.int _,H,I.kept k,⟨t',rfl⟩,aQ.refl H,Rep.int.mpr ?_⟩
   rw[preSum_eq,List.take_of_length_le (by simp)]
  ·cases hg
 ·exact HY hc pins s σ H B ds d xs us I hb rx rs hg
end
end L2
end
section
set_option maxRecDepth 100000
set_option maxHeartbeats 4000000
namespace NT
noncomputable def mx(f:Nat→Nat)(w:List Nat):Nat:=(w.map f).foldl max 0
structure BA (f:Nat→Nat) (M:Nat) (bs:List Int):Prop where
 a:∀(z:Nat) (v:Int),bs[z]? =some v→v= -1∨(0≤v∧v+f z≤M)
noncomputable def BB(f:Nat→Nat)(M:Nat)(bs:List Int)(n:Nat):Prop:=∃(z:Nat) (v:Int),z < n∧bs[z]? =some v∧0≤v∧(M:Int)≤v+f z
noncomputable def Up(bs bs':List Int):Prop:=bs'.length=bs.length∧∀(z:Nat) (v:Int),bs[z]? =some v→∃v',bs'[z]? =some v'∧v≤v'
end NT
namespace NT
open PySem PySem.Spec PyProof.Rows L2 L3
structure Gt where
 k:Str
 w:List Nat
 s:Bool
noncomputable def nN(z:Nat):D:= .int z
noncomputable def wN(w:List Nat):D:= .tup (w.map nN)
noncomputable def gN(g:Gt):D:= .tup [.str g.k,wN g.w, .bl g.s]
noncomputable def iN(x:Str × Nat):D:= .tup [.str x.1, .int x.2]
noncomputable def oN(x:Str × List Nat):D:= .tup [.str x.1,wN x.2]
structure Net where
 i:List (Str × Nat)
 g:List Gt
 o:List (Str × List Nat)
noncomputable def Net.d(n:Net):D:= .tup [.lst (n.i.map iN), .lst (n.g.map gN), .lst (n.o.map oN)]
noncomputable def Net.first(n:Net):Nat:=(n.i.map (·.2)).sum
structure Km (n:Nat) (w:List Nat):Prop where
 ne:w≠[]
 le:w.length≤3
 lt:∀z∈w,z < n
structure Net.Ok (n:Net):Prop where
 i1:1≤n.i.length
 i6:n.i.length≤6
 iw:∀x∈n.i,1≤x.2∧x.2≤3
 is:∀x∈n.i,jw 0 (.str x.1)
 g60:n.g.length≤60
 gw:∀(p:Nat) (g:Gt),n.g[p]? =some g→Km (n.first+p) g.w
 gs:∀g∈n.g,jw 0 (.str g.k)
 o1:1≤n.o.length
 o6:n.o.length≤6
 ow:∀x∈n.o,Km (n.first+n.g.length) x.2
 os:∀x∈n.o,jw 0 (.str x.1)
theorem eq_self{n:Nat}{ds:List D}(h:jw n (.tup ds))(hn:n≤64):jA (.tup ds) (.tup ds)= .ok (.bl true):=by unfold jA;rw [h.eqT hn];rfl
inductive Sm:Nat→D→Prop where
 | int (n:Nat) (i:Int):Sm n (.int i)
 | bl (n:Nat) (b:Bool):Sm n (.bl b)
 | str (n:Nat) (s:Str):Sm n (.str s)
 | lst {n:Nat} {ds:List D} (h:∀d∈ds,Sm n d) (hl:ds.length≤1000000):Sm (n+1) (.lst ds)
 | tup {n:Nat} {ds:List D} (h:∀d∈ds,Sm n d) (hl:ds.length≤1000000):Sm (n+1) (.tup ds)
theorem j1{F G:FS}{δ:av}{d:D}(h:F δ= .ok (.rt d)):dj F G δ= .ok (.rt d):=by unfold dj;rw [h];rfl
theorem lU{m i:Nat}{v:V3}(h:((cc 0 m).map V3.d)[i]? =some v):i < m∧v= .d (.int i):=by
 rw[List.getElem?_map,cc,List.getElem?_map] at h
 cases q:(List.range m)[i]? with
 | none=>rw [q] at h;cases h
 | some j=>
   rw[q] at h;cases h
   obtain⟨q1,q2⟩:=List.getElem?_eq_some_iff.mp q
   rw[List.getElem_range] at q2
   rw[List.length_range] at q1
   subst q2
   exact⟨q1,by simp⟩
theorem jb{α:Type}{l:List α}{f:α→D}{i:Nat}{v:V3}(h:((l.map f).map V3.d)[i]? =some v):∃x,l[i]? =some x∧v= .d (f x):=by
 rw[List.getElem?_map,List.getElem?_map] at h
 cases q:l[i]? with
 | none=>rw [q] at h;cases h
 | some x=>rw [q] at h;cases h;exact⟨x,rfl,rfl⟩
theorem tu{α:Type}{l:List α}{f:α→D}{i:Nat}{v:D}(h:(l.map f)[i]? =some v):∃x,l[i]? =some x∧v=f x:=by
 rw[List.getElem?_map] at h
 cases q:l[i]? with
 | none=>rw [q] at h;cases h
 | some x=>rw [q] at h;cases h;exact⟨x,rfl,rfl⟩
theorem cO{α:Type}{t:FT}{c:av→R Bool}{f:FD}{δ:av}(a b:α→D):∀{xs:List α},(∀x∈xs,∃δ1,t (a x) δ= .ok δ1∧c δ1= .ok true∧f δ1= .ok (b x))→mz t c f δ (xs.map a)= .ok (xs.map b)
 | [],_=>rfl
 | x ::xs,h=>by
   obtain⟨δ1,h1,h2,h3⟩:=h x List.mem_cons_self
   have ih:=cO (t:=t) (c:=c) (f:=f) (δ:=δ) a b (xs:=xs) fun y hy=>h y (List.mem_cons_of_mem _ hy)
   rw[List.map_cons]
   unfold mz
   rw[h1,R.aH,h2,R.aH,if_pos rfl,h3,R.aH,ih]
   rfl
theorem pj{α:Type}{t:FT}{c:av→R Bool}{f:FD}{δ:av}(p:α→Bool)(a b:α→D):∀{xs:List α},(∀x∈xs,∃δ1,t (a x) δ= .ok δ1∧c δ1= .ok (p x)∧(p x=true→f δ1= .ok (b x)))→mz t c f δ (xs.map a)= .ok ((xs.filter p).map b)
 | [],_=>rfl
 | x ::xs,h=>by
   obtain⟨δ1,h1,h2,h3⟩:=h x List.mem_cons_self
   have ih:=pj (t:=t) (c:=c) (f:=f) (δ:=δ) p a b (xs:=xs) fun y hy=>h y (List.mem_cons_of_mem _ hy)
   rw[List.map_cons]
   unfold mz
   rw[h1,R.aH,h2,R.aH]
   cases e:p x with
   | true=>rw [if_pos rfl,h3 e,R.aH,ih,List.filter_cons,if_pos e];rfl
   | false=>rw [if_neg (by decide),ih,List.filter_cons,if_neg (by rw[e];decide)]
theorem C_{n z:Nat}(h:z < n):pW n (z:Int)=some z:=by
 unfold pW
 rw[if_pos (by omega),if_pos (by omega)]
 simp
theorem uN{α:Type}{xs:List α}{z:Nat}{x:α}(h:xs[z]? =some x):oJ xs (z:Int)=some x:=by
 have hl:=(List.getElem?_eq_some_iff.mp h).1
 unfold oJ
 rw[C_ hl]
 exact h
theorem iX{ds:List D}{z:Nat}{x:D}(h:ds[z]? =some x):cb (.lst ds) (.int z)= .ok x:=pB (uN h)
theorem C7{ds:List D}{z:Nat}{x:D}(h:ds[z]? =some x):cb (.tup ds) (.int z)= .ok x:=qr (uN h)
theorem Jq{a b:Nat}(h:a < 1000):ju (.int a) (.int b)= .ok (.int ((a*b:Nat):Int)):=by
 show R.bC (decide ((-(2 ^ 64) < (a:Int)∧(a:Int) < 2 ^ 64)∨(-(2 ^ 64) < (b:Int)∧(b:Int) < 2 ^ 64))) _=_
 rw[bH _ (.inl ⟨by omega,by omega⟩)]
 rfl
end NT
end
section
set_option maxRecDepth 100000
set_option maxHeartbeats 4000000
namespace MT
open PySem PySem.Spec PyProof.Rows L2 L3
noncomputable abbrev M:=Nat→Bool
theorem Hc{N:List Str}{F:FZ}{vs:List V3}{δ:DE}{S:aN}{QV:V3→aN→Prop}(e:bQ N vs=δ)(h:W3 (F δ S) fun o S1=>∃δ',o= .nx δ'∧QV (.d .dk) S1):W3 (mi N F vs S) QV:=by
 subst e
 exact W3.bind (h.mono fun _ _ ⟨_,e,q⟩=>by subst e;exact W3.ok q)
noncomputable def ig:Nat→M→Nat
 | 0,_=>0
 | N+1,f=>(if f 0 then 1 else 0)+2*ig N (fun i=>f (i+1))
theorem gG:∀(N:Nat) (f:M) (i:Nat),(ig N f).testBit i=(decide (i < N) && f i)
 | 0,f,i=>by unfold ig;simp
 | N+1,f,0=>by
   unfold ig
   rw[Nat.testBit_zero]
   cases f 0 <;> simp <;> omega
 | N+1,f,i+1=>by
   unfold ig
   rw[Nat.testBit_succ]
   have:((if f 0=true then 1 else 0)+2*ig N fun i=>f (i+1)) / 2=ig N fun i=>f (i+1):=by split <;> omega
   rw[this,gG N _ i]
   simp
theorem kU:∀{N:Nat} {f g:M},(∀i,i < N→f i=g i)→ig N f=ig N g
 | 0,_,_,_=>rfl
 | N+1,f,g,h=>by
   unfold ig
   rw[h 0 (by omega),kU (N:=N) fun i hi=>h (i+1) (by omega)]
theorem xF(N:Nat)(f g:M):ig N f &&& ig N g=ig N fun i=>f i && g i:=by
 refine Nat.eq_of_testBit_eq fun i=>?_
 rw[Nat.testBit_and,gG,gG,gG]
 cases decide (i < N) <;> simp
theorem As(N:Nat)(f g:M):ig N f ||| ig N g=ig N fun i=>f i || g i:=by
 refine Nat.eq_of_testBit_eq fun i=>?_
 rw[Nat.testBit_or,gG,gG,gG]
 cases decide (i < N) <;> simp
theorem x6:∀(N:Nat) (f g:M),((ig N fun i=>f i || g i:Nat):Int) - (ig N fun i=>f i && g i:Nat)=(ig N fun i=>f i !=g i:Nat)
 | 0,f,g=>rfl
 | N+1,f,g=>by
   have ih:=x6 N (fun i=>f (i+1)) (fun i=>g (i+1))
   have e:∀h:M,ig (N+1) h=(if h 0 then 1 else 0)+2*ig N (fun i=>h (i+1)):=fun _=>rfl
   rw[e,e,e]
   generalize ig N (fun i=>f (i+1) || g (i+1))=a at ih ⊢
   generalize ig N (fun i=>f (i+1) && g (i+1))=b at ih ⊢
   generalize ig N (fun i=>f (i+1) !=g (i+1))=c at ih ⊢
   show(((if(f 0 || g 0) then 1 else 0)+2*a:Nat):Int) - ((if(f 0 && g 0) then 1 else 0)+2*b:Nat)=((if(f 0 !=g 0) then 1 else 0)+2*c:Nat)
   cases f 0 <;> cases g 0 <;> simp <;> omega
theorem p9(x y:Nat):Builtin.bitAnd (x:Int) (y:Int)=((x &&& y:Nat):Int):=by
 unfold Builtin.bitAnd
 rw[decide_eq_true (by omega:(0:Int)≤x),decide_eq_true (by omega:(0:Int)≤y)]
 simp
theorem x_(x y:Nat):Builtin.bitOr (x:Int) (y:Int)=((x ||| y:Nat):Int):=by
 unfold Builtin.bitOr Builtin.bitAnd Builtin.bitNot
 rw[decide_eq_false (by omega:¬(0:Int)≤ -(x:Int) - 1),decide_eq_false (by omega:¬(0:Int)≤ -(y:Int) - 1)]
 show -(-(((-(-(x:Int) - 1) - 1).toNat ||| (-(-(y:Int) - 1) - 1).toNat:Nat):Int) - 1) - 1=_
 rw[show(-(-(x:Int) - 1) - 1).toNat=x by omega,show(-(-(y:Int) - 1) - 1).toNat=y by omega]
 omega
noncomputable def mI(N:Nat)(f:M):D:= .int (ig N f:Nat)
theorem tT{N:Nat}{f g:M}(h:∀i,i < N→f i=g i):mI N f=mI N g:=by unfold mI;rw [kU h]
theorem qf(N:Nat)(f g:M):zp (mI N f) (mI N g)= .ok (mI N fun i=>f i && g i):=by
 show R.ok (D.int (Builtin.bitAnd (ig N f:Int) (ig N g:Int)))=_
 rw[p9,xF];rfl
theorem tV(N:Nat)(f g:M):BW (mI N f) (mI N g)= .ok (mI N fun i=>f i || g i):=by
 show R.ok (D.int (Builtin.bitOr (ig N f:Int) (ig N g:Int)))=_
 rw[x_,As];rfl
theorem xl(N:Nat)(f g:M):zk (mI N f) (mI N g)= .ok (mI N fun i=>f i !=g i):=by
 show R.ok (D.int (Builtin.bitOr (ig N f:Int) (ig N g:Int) - Builtin.bitAnd (ig N f:Int) (ig N g:Int)))=_
 rw[x_,p9,As,xF,x6];rfl
noncomputable def one:M:=fun _=>true
theorem vb(N:Nat)(f:M):zk (mI N one) (mI N f)= .ok (mI N fun i=>!f i):=by
 rw[xl]
 have:(fun i=>one i !=f i)=fun i=>!f i:=by funext i;unfold one;simp
 rw[this]
theorem Bl(N:Nat)(f:M)(c:Bool):(if c then zk (mI N one) (mI N f) else .ok (mI N f))= .ok (mI N fun i=>f i !=c):=by
 cases c with
 | true=>
   rw[if_pos rfl,vb]
   have:(fun i=>!f i)=fun i=>f i !=true:=by funext i;cases f i <;> rfl
   rw[this]
 | false=>
   rw[if_neg (by decide)]
   have:f=fun i=>f i !=false:=by funext i;cases f i <;> rfl
   rw[←this]
theorem tU{N:Nat}{f:M}:ig N f=0↔∀i,i < N→f i=false:=by
 constructor
 ·intro h i hi
  have:=gG N f i
  rw[h,Nat.zero_testBit,decide_eq_true hi,Bool.true_and] at this
  exact this.symm
 ·intro h
  refine Nat.eq_of_testBit_eq fun i=>?_
  rw[gG,Nat.zero_testBit]
  by_cases q:i < N
  ·rw[h i q];simp
  ·rw[decide_eq_false q];rfl
theorem HA(N:Nat)(f:M)(n:Nat):(nL (mI N f) (.int n)).bind (fun d=>zp d (.int 1))= .ok (.int (if decide (n < N) && f n then 1 else 0)):=by
 have h1:nL (mI N f) (.int n)= .ok (.int ((ig N f / 2 ^ n:Nat):Int)):=by
  show R.bC (decide ((0:Int)≤n)) (.ok (D.int ((ig N f:Int) / 2 ^ ((n:Int)).toNat)))=_
  rw[bH _ (by omega),Int.toNat_natCast]
  congr 2
 rw[h1,R.aH]
 show R.ok (D.int (Builtin.bitAnd ((ig N f / 2 ^ n:Nat):Int) ((1:Nat):Int)))=_
 rw[p9,Nat.and_one_is_mod,←gG]
 congr 2
 unfold Nat.testBit
 rw[Nat.shiftRight_eq_div_pow,Nat.one_and_eq_mod_two]
 have:ig N f / 2 ^ n % 2=0∨ig N f / 2 ^ n % 2=1:=by omega
 rcases this with q | q <;> rw[q] <;> rfl
noncomputable def bI(b:Bool):D:= .int (if b then 1 else 0)
noncomputable def B4:List Bool→Nat
 | []=>0
 | b ::bs=>(if b then 1 else 0)+2*B4 bs
theorem Aw:∀bs:List Bool,B4 bs=ig bs.length fun i=>bs.getD i false
 | []=>rfl
 | b ::bs=>by
   unfold B4
   rw[Aw bs]
   rfl
noncomputable def nI(n:Nat):D:= .int (n:Int)
noncomputable def kS:Nat→Str | 0=>Str.ofString "not" | 1=>Str.ofString "and" | 2=>Str.ofString "or" | 3=>Str.ofString "xor" | _=>Str.ofString "vote"
noncomputable def ar:Nat→Nat | 0=>1 | 4=>3 | _=>2
theorem w9(k:Nat):ar k≤3:=by unfold ar;split <;> omega
noncomputable def gv:Nat→List Bool→Bool
 | 0,[a]=>!a
 | 1,[a,b]=>a && b
 | 2,[a,b]=>a || b
 | 3,[a,b]=>a !=b
 | 4,[a,b,c]=>(a && b) || (a && c) || (b && c)
 | _,_=>false
noncomputable def iY(ws:List M)(n:Nat):M:=ws.getD n fun _=>false
theorem oX{ws:List M}{b:M}{n:Nat}(h:n < ws.length):iY (ws++[b]) n=iY ws n:=by
 unfold iY
 rw[List.getD_eq_getElem?_getD,List.getElem?_append_left h,List.getD_eq_getElem?_getD]
theorem pR(ws:List M)(b:M):iY (ws++[b]) ws.length=b:=by
 unfold iY
 rw[List.getD_eq_getElem?_getD,List.getElem?_append_right (Nat.le_refl _),Nat.sub_self]
 rfl
noncomputable abbrev Gt:=Nat × List Nat × Bool
noncomputable def gp(g:Gt):D:= .tup [.str (kS g.1), .tup (g.2.1.map nI), .bl g.2.2]
noncomputable def nA(n:Nat)(g:Gt):Prop:=g.1≤4∧g.2.1.length=ar g.1∧∀w∈g.2.1,w < n
noncomputable def inD(x:Str × Nat):D:= .tup [.str x.1,nI x.2]
noncomputable def sI(x:Str × List Nat):D:= .tup [.str x.1, .tup (x.2.map nI)]
noncomputable def bz(ins:List (Str × Nat))(gs:List Gt)(os:List (Str × List Nat)):D:= .tup [.lst (ins.map inD), .lst (gs.map gp), .lst (os.map sI)]
noncomputable def ni(ins:List (Str × Nat)):Nat:=(ins.map (·.2)).sum
noncomputable def gF(g:Gt)(ws:List M):M:=fun p=>gv g.1 (g.2.1.map fun n=>iY ws n p)
noncomputable def fN(bad:List Int)(b:M):Nat→List M→List M
 | 0,ws=>ws
 | n+1,ws=>fN bad b n ws++[fun p=>b p !=bad.contains ((fN bad b n ws).length:Int)]
theorem fP(bad:List Int)(b:M):∀n ws,(fN bad b n ws).length=ws.length+n
 | 0,ws=>rfl
 | n+1,ws=>by unfold fN;rw [List.length_append,fP bad b n ws];rfl
noncomputable def cT(ins:List (Str × Nat))(bits:List M)(bad:List Int):Nat→List M
 | 0=>[]
 | i+1=>match ins[i]?,bits[i]? with | some x,some b=>fN bad b x.2 (cT ins bits bad i) | _,_=>cT ins bits bad i
theorem iL{ins:List (Str × Nat)}{bits:List M}{bad:List Int}(hb:bits.length=ins.length):∀i,i≤ins.length→(cT ins bits bad i).length=ni (ins.take i)
 | 0,_=>rfl
 | i+1,hi=>by
   have h1:ins[i]? =some ins[i]:=List.getElem?_eq_getElem (by omega)
   have h2:bits[i]? =some bits[i]:=List.getElem?_eq_getElem (by omega)
   unfold cT
   rw[h1,h2]
   show(fN bad bits[i] ins[i].2 (cT ins bits bad i)).length=_
   rw[fP,iL hb i (by omega),List.take_add_one,h1]
   unfold ni
   simp only[Option.toList_some,List.map_append,List.sum_append,List.map_cons,List.map_nil,List.sum_cons,List.sum_nil]
   omega
noncomputable def kK(gs:List Gt)(turned:List Int)(w0:List M):Nat→List M
 | 0=>w0
 | i+1=>match gs[i]? with | some g=>kK gs turned w0 i++[fun p=>gF g (kK gs turned w0 i) p !=turned.contains (i:Int)] | none=>kK gs turned w0 i
theorem k3{gs:List Gt}{turned:List Int}{w0:List M}:∀i,i≤gs.length→(kK gs turned w0 i).length=w0.length+i
 | 0,_=>rfl
 | i+1,hi=>by
   have h1:gs[i]? =some gs[i]:=List.getElem?_eq_getElem (by omega)
   unfold kK
   rw[h1]
   show(kK gs turned w0 i++[_]).length=_
   rw[List.length_append,k3 i (by omega)]
   rfl
structure g8 (ins:List (Str × Nat)) (gs:List Gt) (os:List (Str × List Nat)):Prop where
 hi:ins.length < 100
 hw:∀x∈ins,x.2 < 100
 hg:gs.length < 1000
 g:∀(i:Nat) (x:Gt),gs[i]? =some x→nA (ni ins+i) x
 ho:os.length < 1000
 o:∀x∈os,x.2.length < 1000∧∀w∈x.2,w < ni ins+gs.length
noncomputable def jm(ins:List (Str × Nat))(gs:List Gt)(bits:List M)(turned bad:List Int):List M:=kK gs turned (cT ins bits bad ins.length) gs.length
theorem tm:∀{l:List (Str × Nat)},(∀x∈l,x.2 < 100)→ni l≤100*l.length
 | [],_=>by simp [ni]
 | x ::l,h=>by
   have ih:=tm (l:=l) fun y hy=>h y (List.mem_cons_of_mem _ hy)
   have:=h x List.mem_cons_self
   unfold ni at ih ⊢
   rw[List.map_cons,List.sum_cons,List.length_cons]
   omega
theorem uH{ins:List (Str × Nat)}{gs:List Gt}{bits:List M}{turned bad:List Int}(hb:bits.length=ins.length):(jm ins gs bits turned bad).length=ni ins+gs.length:=by unfold jm;rw [k3 _ (Nat.le_refl _),iL hb _ (Nat.le_refl _),List.take_length]
noncomputable def tell(ws:List M)(x:Str × List Nat):List M:=x.2.map (iY ws)
noncomputable def zm:List Bool→Bool × Bool
 | [a]=>(!a,a)
 | [a,b]=>(!(a || b),a && b)
 | [a,b,c]=>let v:=(a && b) || (a && c) || (b && c);(!v,v)
 | _=>(false,false)
noncomputable def brk(safe:Bool)(x y:Bool × Bool):Bool:=if safe then(x.1 && y.2) || (x.2 && y.1) else(x.1 !=y.1) || (x.2 !=y.2)
theorem o9(i:Int)(ps:List Int):oM (.int i) (.tup (ps.map .int))= .ok (.bl (ps.contains i)):=by
 show((match ints? (ps.map D.int) with | some ss=>R.ok (ss.contains i) | none=> .no)).bind (fun b=>R.ok (D.bl b))=_
 rw[L2.ints_map];rfl
theorem se{ds:List D}{i:Nat}{v:V3}(h:((dO ds).map V3.d)[i]? =some v):∃d,ds[i]? =some d∧v= .d (.tup [.int i,d]):=by
 rw[List.getElem?_map,dO,List.getElem?_map,List.getElem?_zipIdx] at h
 cases q:ds[i]? with
 | none=>rw [q] at h;cases h
 | some d=>
   rw[q] at h
   simp at h
   exact⟨d,rfl,h.symm⟩
theorem sf{c:av→R Bool}{f g:FD}{δ:av}{b:Bool}{r:R D}(h:c δ= .ok b)(h2:(if b then f δ else g δ)=r):wx c f g δ=r:=by unfold wx;rw [h,R.aH];exact h2
theorem gg(S:aN)(x y:SO):(S++[x]).set S.length y=S++[y]:=by
 rw[List.set_append_right _ _ (Nat.le_refl _),Nat.sub_self];rfl
theorem bO(S:aN)(x:SO):(S++[x])[S.length]? =some x:=by rw[List.getElem?_append_right (Nat.le_refl _),Nat.sub_self];rfl
theorem Ai{N:Nat}{ws:List M}{n:Nat}(h:n < ws.length):cb (.lst (ws.map (mI N))) (nI n)= .ok (mI N (iY ws n)):=by
 refine NT.iX ?_
 rw[List.getElem?_map,List.getElem?_eq_getElem h]
 unfold iY
 rw[List.getD_eq_getElem?_getD,List.getElem?_eq_getElem h]
 rfl
end MT
namespace MT
open PySem PySem.Spec PyProof.Rows L2 L3
theorem lJ{α:Type}{t:FG}{body:FZ}{S:aN}(g:α→V3)(f:α→Option V3)(E:DE→Prop):∀{xs:List α} {δ:DE},E δ→
 (∀x∈xs,∀δ,E δ→∃δ1,t (g x) δ=some δ1∧W3 (body δ1 S) fun o S1=>S1=S∧(match f x with | some v=>o= .rt v | none=>∃δ2,o= .nx δ2∧E δ2))→
 W3 (kE t body (xs.map g) δ S) fun o S1=>S1=S∧(match xs.findSome? f with | some v=>o= .rt v | none=>∃δ2,o= .nx δ2∧E δ2)
 | [],δ,h0,_=>W3.ok ⟨rfl,δ,rfl,h0⟩
 | x ::xs,δ,h0,hs=>by
   obtain⟨δ1,e1,o,S1,e2,rfl,h2⟩:=hs x List.mem_cons_self δ h0
   rw[List.map_cons]
   unfold kE
   rw[e1]
   refine W3.bind ⟨_,_,e2,?_⟩
   rw[List.findSome?_cons]
   cases hf:f x with
   | some v=>rw [hf] at h2;subst h2;exact W3.ok ⟨rfl,rfl⟩
   | none=>
     rw[hf] at h2
     obtain⟨δ2,rfl,h2⟩:=h2
     exact lJ g f E h2 fun y hy=>hs y (List.mem_cons_of_mem _ hy)
theorem l7{α:Type}{t:FT}{body:FS}(g:α→D)(f:α→Option D)(E:av→Prop):∀{xs:List α} {δ:av},E δ→
 (∀x∈xs,∀δ,E δ→∃o,((t (g x) δ).bind body)= .ok o∧(match f x with | some v=>o= .rt v | none=>∃δ2,o= .nx δ2∧E δ2))→
 ∃o,ll t body (xs.map g) δ= .ok o∧(match xs.findSome? f with | some v=>o= .rt v | none=>∃δ2,o= .nx δ2∧E δ2)
 | [],δ,h0,_=>⟨_,rfl,δ,rfl,h0⟩
 | x ::xs,δ,h0,hs=>by
   obtain⟨o,e2,h2⟩:=hs x List.mem_cons_self δ h0
   rw[List.map_cons]
   unfold ll
   cases e3:t (g x) δ with
   | no=>rw [e3] at e2;cases e2
   | ex _=>rw [e3] at e2;cases e2
   | ok δ1=>
     rw[e3,R.aH] at e2
     rw[R.aH,e2,R.aH,List.findSome?_cons]
     cases hf:f x with
     | some v=>rw [hf] at h2;subst h2;exact⟨_,rfl,rfl⟩
     | none=>
       rw[hf] at h2
       obtain⟨δ2,rfl,h2⟩:=h2
       exact l7 g f E h2 fun y hy=>hs y (List.mem_cons_of_mem _ hy)
noncomputable def kf:List Nat→Nat→List (List Nat)
 | _,0=>[[]]
 | ps,s+1=>(List.range ps.length).flatMap fun a=>(kf (ps.drop (a+1)) s).map (ps.getD a 0 ::·)
theorem nU:∀{s:Nat} {ps T:List Nat},T∈kf ps s→T.length=s∧∀x∈T,x∈ps
 | 0,ps,T,h=>by unfold kf at h;rw [List.mem_singleton.mp h];simp
 | s+1,ps,T,h=>by
   unfold kf at h
   obtain⟨a,ha,h⟩:=List.mem_flatMap.mp h
   obtain⟨R,hR,rfl⟩:=List.mem_map.mp h
   rw[List.mem_range] at ha
   obtain⟨h1,h2⟩:=nU hR
   refine⟨by simp [h1],fun x hx=>?_⟩
   rcases List.mem_cons.mp hx with rfl | hx
   ·rw[List.getD_eq_getElem?_getD,List.getElem?_eq_getElem ha];exact List.getElem_mem ha
   ·exact List.mem_of_mem_drop (h2 x hx)
theorem vC:∀{l:List Nat} {m:Nat},(∀x∈l,x≤m)→l.sum≤l.length*m
 | [],_,_=>by simp
 | x ::l,m,h=>by
   have:=vC (l:=l) (m:=m) fun y hy=>h y (List.mem_cons_of_mem _ hy)
   have h0:=h x List.mem_cons_self
   rw[List.sum_cons,List.length_cons,Nat.add_mul]
   omega
theorem o5:∀{s:Nat} {ps:List Nat} {n:Nat},ps.length≤n→(kf ps s).length≤n ^ s
 | 0,ps,n,_=>by unfold kf;simp
 | s+1,ps,n,h=>by
   unfold kf
   rw[List.length_flatMap,Nat.pow_succ]
   refine Nat.le_trans (vC (m:=n ^ s) fun x hx=>?_) ?_
   ·obtain⟨a,_,rfl⟩:=List.mem_map.mp hx
    rw[List.length_map]
    exact o5 (by rw[List.length_drop];omega)
   ·rw[List.length_map,List.length_range,Nat.mul_comm]
    exact Nat.mul_le_mul_left _ h
theorem z6{F G:FZ}{δ:DE}{S:aN}{QO:Ou→aN→Prop}(h:W3 (F δ S) fun o S1=>match o with | .nx δ1=>W3 (G δ1 S1) QO | .rt v=>QO (.rt v) S1):W3 (bN F G δ S) QO:=
 W3.bind (h.mono fun o S1 q=>by cases o with | nx δ1=>exact q | rt v=>exact W3.ok q)
end MT
end
section
set_option maxRecDepth 100000
set_option maxHeartbeats 400000
namespace MT
open PySem PySem.Spec PyProof.Rows L2 L3
theorem sW{gs:List Gt}{t:List Int}{w0:List M}{n:Nat}:∀{j i:Nat},i≤j→j≤gs.length→n < w0.length+i→iY (kK gs t w0 j) n=iY (kK gs t w0 i) n
 | 0,i,h,_,_=>by rw[Nat.le_zero.mp h]
 | j+1,i,h,hj,hn=>by
   by_cases e:i=j+1
   ·rw[e]
   ·have h1:gs[j]? =some gs[j]:=List.getElem?_eq_getElem (by omega)
    rw[←sW (j:=j) (i:=i) (by omega) (by omega) hn]
    conv=>lhs;unfold kK
    rw[h1]
    exact oX (by rw[k3 _ (by omega)];omega)
section
variable {ins:List (Str × Nat)} {gs:List Gt} {bits:List M} {T bad:List Int} {p:Nat}
theorem D1(hb:bits.length=ins.length):(cT ins bits bad ins.length).length=ni ins:=by rw[iL hb _ (Nat.le_refl _),List.take_length]
theorem El(hb:bits.length=ins.length){n:Nat}(h:n < ni ins):iY (jm ins gs bits T bad) n=iY (cT ins bits bad ins.length) n:=by
 unfold jm
 rw[sW (i:=0) (Nat.zero_le _) (Nat.le_refl _) (by rw[D1 hb];exact h)]
 rfl
theorem x8(hb:bits.length=ins.length){i:Nat}{g:Gt}(h:gs[i]? =some g)(hg:nA (ni ins+i) g) :
 iY (jm ins gs bits T bad) (ni ins+i) p=(gv g.1 (g.2.1.map fun n=>iY (jm ins gs bits T bad) n p) !=T.contains (i:Int)):=by
 have hi:i < gs.length:=(List.getElem?_eq_some_iff.mp h).1
 have hw:=D1 (bad:=bad) hb
 unfold jm
 rw[sW (i:=i+1) (by omega) (Nat.le_refl _) (by rw[hw];omega)]
 conv=>lhs;unfold kK
 rw[h]
 have hl:(kK gs T (cT ins bits bad ins.length) i).length=ni ins+i:=by rw[k3 _ (by omega),hw]
 show iY (kK gs T (cT ins bits bad ins.length) i++[_]) (ni ins+i) p=_
 rw[←hl,pR]
 show(gv g.1 (g.2.1.map fun n=>iY (kK gs T (cT ins bits bad ins.length) i) n p) !=T.contains (i:Int))=_
 congr 2
 refine List.map_congr_left fun n hn=>?_
 rw[sW (j:=gs.length) (i:=i) (by omega) (Nat.le_refl _) (by rw[hw];exact hg.2.2 n hn)]
theorem AE{b:M}:∀m ws n,n < ws.length→iY (fN bad b m ws) n=iY ws n
 | 0,ws,n,_=>rfl
 | m+1,ws,n,h=>by unfold fN;rw [oX (by rw[fP];omega)];exact AE m ws n h
theorem zJ{b:M}:∀(m:Nat) (ws:List M) (k:Nat),k < m→iY (fN bad b m ws) (ws.length+k) p=(b p !=bad.contains ((ws.length+k:Nat):Int))
 | 0,ws,k,h=>absurd h (by omega)
 | m+1,ws,k,h=>by
   unfold fN
   by_cases e:k=m
   ·subst e
    rw[←fP bad b k ws,pR]
   ·rw[oX (by rw[fP];omega)]
    exact zJ m ws k (by omega)
end
theorem l_{m:Nat}:∀{ins:List (Str × Nat)},(∀x∈ins,x.2=m)→ni ins=m*ins.length
 | [],_=>rfl
 | x ::l,h=>by
   have ih:=l_ (ins:=l) fun y hy=>h y (List.mem_cons_of_mem _ hy)
   have:=h x List.mem_cons_self
   unfold ni at ih ⊢
   rw[List.map_cons,List.sum_cons,List.length_cons,ih,this,Nat.mul_succ,Nat.add_comm]
section
variable {ins:List (Str × Nat)} {gs:List Gt} {bits:List M} {T bad:List Int} {p m:Nat}
theorem wG(hw:∀x∈ins,x.2=m)(hb:bits.length=ins.length):∀i,i≤ins.length→∀j,j < i→∀k,k < m→iY (cT ins bits bad i) (m*j+k) p=((bits.getD j fun _=>false) p !=bad.contains ((m*j+k:Nat):Int))
 | 0,_,j,hj,_,_=>absurd hj (by omega)
 | i+1,hi,j,hj,k,hk=>by
   have h1:ins[i]? =some ins[i]:=List.getElem?_eq_getElem (by omega)
   have h2:bits[i]? =some bits[i]:=List.getElem?_eq_getElem (by omega)
   have hl:(cT ins bits bad i).length=m*i:=by
    rw[iL hb i (by omega),l_ fun x hx=>hw x (List.mem_of_mem_take hx),List.length_take,Nat.min_eq_left (by omega)]
   conv=>lhs;unfold cT
   rw[h1,h2]
   show iY (fN bad bits[i] ins[i].2 (cT ins bits bad i)) (m*j+k) p=_
   rw[hw _ (List.getElem_mem _)]
   by_cases e:j=i
   ·subst e
    rw[←hl,zJ _ _ _ hk,List.getD_eq_getElem?_getD,h2];rfl
   ·have hji:j+1≤i:=by omega
    have:m*j+k < m*i:=by
     have:=Nat.mul_le_mul_left m hji
     rw[Nat.mul_add,Nat.mul_one] at this
     omega
    rw[AE _ _ _ (by rw[hl];exact this)]
    exact wG hw hb i (by omega) j (by omega) k hk
end
theorem rG{gs:List Gt}{t t':List Int}{w0:List M}(h:∀i,i < gs.length→t.contains (i:Int)=t'.contains (i:Int)):∀i,i≤gs.length→kK gs t w0 i=kK gs t' w0 i
 | 0,_=>rfl
 | i+1,hi=>by
   have h1:gs[i]? =some gs[i]:=List.getElem?_eq_getElem (by omega)
   unfold kK
   rw[h1,rG h i (by omega)]
   show _++[fun p=>_ !=t.contains (i:Int)]=_++[fun p=>_ !=t'.contains (i:Int)]
   rw[h i (by omega)]
theorem pG{ins:List (Str × Nat)}{gs:List Gt}{bits:List M}{t t' bad:List Int}(h:∀i,i < gs.length→t.contains (i:Int)=t'.contains (i:Int)):jm ins gs bits t bad=jm ins gs bits t' bad:=rG h _ (Nat.le_refl _)
noncomputable def fF(m:Nat)(ins:List (Str × Nat)):List (Str × Nat):=ins.map fun x=>(x.1,m)
noncomputable def BX(m:Nat)(g:Gt)(k:Nat):Gt:=(g.1,g.2.1.map (fun w=>m*w+k),g.2.2)
noncomputable def el(m:Nat)(gs:List Gt):List Gt:=gs.flatMap fun g=>(List.range m).map (BX m g)
noncomputable def oV(m:Nat)(os:List (Str × List Nat)):List (Str × List Nat):=os.map fun x=>(x.1,(List.range m).map fun k=>m*x.2.getD 0 0+k)
noncomputable def shr(m k n:Nat)(T:List Int):List Int:=((List.range n).filter fun i=>T.contains ((m*i+k:Nat):Int)).map fun(i:Nat)=>(i:Int)
theorem o4{m k n i:Nat}{T:List Int}(h:i < n):(shr m k n T).contains (i:Int)=T.contains ((m*i+k:Nat):Int):=by
 unfold shr
 rw[Bool.eq_iff_iff,List.contains_iff_mem]
 constructor
 ·intro hm
  obtain⟨j,hj,e⟩:=List.mem_map.mp hm
  have:j=i:=by omega
  subst this
  exact(List.mem_filter.mp hj).2
 ·intro hm
  exact List.mem_map.mpr ⟨i,List.mem_filter.mpr ⟨List.mem_range.mpr h,hm⟩,rfl⟩
theorem xG(m k n:Nat):shr m k n []=[]:=by
 unfold shr
 rw[List.filter_eq_nil_iff.mpr (fun a _=>by simp)]
 rfl
section
variable {ins:List (Str × Nat)} {gs:List Gt} {os:List (Str × List Nat)} {bits:List M} {T bad:List Int} {p m:Nat}
theorem jx:(el m gs).length=m*gs.length:=by
 unfold el
 induction gs with
 | nil=>rfl
 | cons g gs ih=>rw [List.flatMap_cons,List.length_append,ih,List.length_map,List.length_range,List.length_cons,Nat.mul_succ,Nat.add_comm]
theorem m_:∀{gs:List Gt} {i k:Nat} {g:Gt},gs[i]? =some g→k < m→(el m gs)[m*i+k]? =some (BX m g k)
 | [],i,k,g,h,_=>by simp at h
 | g0 ::gs,0,k,g,h,hk=>by
   obtain rfl:g0=g:=by simpa using h
   show((List.range m).map (BX m g0)++el m gs)[m*0+k]? =_
   rw[Nat.mul_zero,Nat.zero_add,List.getElem?_append_left (by rw[List.length_map,List.length_range];exact hk),List.getElem?_map,List.getElem?_range hk];rfl
 | g0 ::gs,i+1,k,g,h,hk=>by
   show((List.range m).map (BX m g0)++el m gs)[m*(i+1)+k]? =_
   rw[List.getElem?_append_right (by rw[List.length_map,List.length_range,Nat.mul_succ];omega),List.length_map,List.length_range,show m*(i+1)+k - m=m*i+k by rw[Nat.mul_succ];omega]
   exact m_ (by simpa using h) hk
theorem wF:∀x∈fF m ins,x.2=m:=fun x hx=>by obtain⟨y,_,rfl⟩:=List.mem_map.mp hx;rfl
theorem kB:(fF m ins).length=ins.length:=by unfold fF;rw [List.length_map]
theorem kI:ni (fF m ins)=m*ins.length:=by rw[l_ wF,kB]
theorem Ab{g:Gt}{n i k:Nat}(h:nA (n+i) g)(hk:k < m):nA (m*n+(m*i+k)) (BX m g k):=by
 refine⟨h.1,by show(g.2.1.map _).length=_;rw [List.length_map];exact h.2.1,fun w hw=>?_⟩
 obtain⟨v,hv,rfl⟩:=List.mem_map.mp hw
 have h1:=h.2.2 v hv
 have h2:=Nat.mul_le_mul_left m (show v+1≤n+i by omega)
 rw[Nat.mul_add,Nat.mul_add,Nat.mul_one] at h2
 omega
theorem xR(hb:bits.length=ins.length)(h1:∀x∈ins,x.2=1)(hg:∀(i:Nat) (g:Gt),gs[i]? =some g→nA (ins.length+i) g) :
 ∀N w,w < N→w < ins.length+gs.length→∀k,k < m→iY (jm (fF m ins) (el m gs) bits T bad) (m*w+k) p=iY (jm ins gs bits (shr m k gs.length T) (shr m k ins.length bad)) w p
 | 0,w,hN,_,_,_=>absurd hN (by omega)
 | N+1,w,hN,hw,k,hk=>by
   have hb':bits.length=(fF m ins).length:=by rw[kB];exact hb
   have hw1:ni ins=ins.length:=by rw[l_ h1,Nat.one_mul]
   by_cases hwi:w < ins.length
   ·have e:m*w+k < m*ins.length:=by
     have:=Nat.mul_le_mul_left m (show w+1≤ins.length by omega)
     rw[Nat.mul_add,Nat.mul_one] at this
     omega
    rw[El hb' (by rw[kI];exact e),El hb (by rw[hw1];exact hwi),wG wF hb' _ (Nat.le_refl _) w (by rw[kB];exact hwi) k hk]
    have:=wG (p:=p) (bad:=shr m k ins.length bad) h1 hb _ (Nat.le_refl _) w hwi 0 (by omega)
    rw[Nat.one_mul,Nat.add_zero] at this
    rw[this,o4 hwi]
   ·obtain⟨i,rfl⟩:∃i,w=ins.length+i:=⟨w - ins.length,by omega⟩
    have hi:i < gs.length:=by omega
    have hgi:gs[i]? =some gs[i]:=List.getElem?_eq_getElem hi
    have hok:=hg i _ hgi
    have ew:m*(ins.length+i)+k=ni (fF m ins)+(m*i+k):=by rw[kI,Nat.mul_add];omega
    rw[ew,x8 hb' (m_ hgi hk) (by rw[kI];exact Ab hok hk)]
    have hr:=x8 (p:=p) (T:=shr m k gs.length T) (bad:=shr m k ins.length bad) hb hgi (by rw[hw1];exact hok)
    rw[hw1] at hr
    rw[hr,o4 hi]
    congr 2
    show(gs[i].2.1.map (fun w=>m*w+k)).map _=_
    rw[List.map_map]
    refine List.map_congr_left fun n hn=>?_
    have hn2:=hok.2.2 n hn
    exact xR hb h1 hg N n (by omega) (by omega) k hk
theorem Bp(hm:m≤10)(NO:g8 ins gs os)(h1:∀x∈ins,x.2=1)(ho:∀x∈os,∃w,x.2=[w])(hg:gs.length≤90):g8 (fF m ins) (el m gs) (oV m os):=by
 have hw1:ni ins=ins.length:=by rw[l_ h1,Nat.one_mul]
 refine⟨by rw[kB];exact NO.hi,fun x hx=>by rw[wF x hx];omega,?_,?_,by unfold oV;rw [List.length_map];exact NO.ho,?_⟩
 ·rw[jx]
  have:=Nat.mul_le_mul hm hg
  omega
 ·intro i x hx
  have hi:i < m*gs.length:=by rw[←jx];exact(List.getElem?_eq_some_iff.mp hx).1
  have hm0:0 < m:=by
   cases m with
   | zero=>rw [Nat.zero_mul] at hi;omega
   | succ n=>omega
  have hq:i / m < gs.length:=Nat.div_lt_of_lt_mul hi
  have hr:=Nat.mod_lt i hm0
  have e:m*(i / m)+i % m=i:=Nat.div_add_mod i m
  have h2:=m_ (m:=m) (k:=i % m) (List.getElem?_eq_getElem hq) hr
  rw[e,hx] at h2
  cases h2
  rw[kI]
  have h3:=NO.g _ _ (List.getElem?_eq_getElem hq)
  rw[hw1] at h3
  have h4:=Ab (m:=m) (k:=i % m) h3 hr
  rw[e] at h4
  exact h4
 ·intro x hx
  obtain⟨y,hy,rfl⟩:=List.mem_map.mp hx
  obtain⟨w,hw⟩:=ho y hy
  refine⟨by show((List.range m).map _).length < 1000;rw [List.length_map,List.length_range];omega,fun v hv=>?_⟩
  obtain⟨k,hk,rfl⟩:=List.mem_map.mp hv
  have hk:=List.mem_range.mp hk
  have h2:=(NO.o y hy).2 w (by rw[hw];simp)
  rw[hw1] at h2
  rw[kI,jx,hw]
  show m*w+k < _
  have:=Nat.mul_le_mul_left m (show w+1≤ins.length+gs.length by omega)
  rw[Nat.mul_add,Nat.mul_add,Nat.mul_one] at this
  omega
theorem mk_inj{i i' k k':Nat}(hk:k < m)(hk':k' < m)(h:m*i+k=m*i'+k'):i=i'∧k=k':=by
 have h1:(m*i+k) / m=i:=by rw[Nat.mul_add_div (by omega),Nat.div_eq_of_lt hk,Nat.add_zero]
 have h2:(m*i'+k') / m=i':=by rw[Nat.mul_add_div (by omega),Nat.div_eq_of_lt hk',Nat.add_zero]
 have:i=i':=by rw[←h1,←h2,h]
 subst this
 exact⟨rfl,by omega⟩
theorem BE{n i k:Nat}(hk:k < m)(j:Nat)(hj:j < n):(shr m k n [((m*i+k:Nat):Int)]).contains (j:Int)=[(i:Int)].contains (j:Int):=by
 rw[o4 hj,Bool.eq_iff_iff,List.contains_iff_mem,List.contains_iff_mem,List.mem_singleton,List.mem_singleton]
 exact⟨fun h=>by rw[(mk_inj hk hk (Int.ofNat_inj.mp h)).1],fun h=>by rw[Int.ofNat_inj.mp h]⟩
theorem yU{n i k k':Nat}(hk:k < m)(hk':k' < m)(h:k'≠k)(j:Nat)(hj:j < n):(shr m k' n [((m*i+k:Nat):Int)]).contains (j:Int)=([]:List Int).contains (j:Int):=by
 rw[o4 hj]
 refine(Bool.eq_false_iff.mpr fun q=>h ?_).trans rfl
 rw[List.contains_iff_mem,List.mem_singleton] at q
 exact(mk_inj hk' hk (Int.ofNat_inj.mp q)).2
end
theorem mO{α:Type}(f g:α→Int):∀l:List α,PyData.eqvAll (gZ (l.map fun p=>D.int (f p))) (gZ (l.map fun p=>D.int (g p)))=l.all fun p=>f p==g p
 | []=>rfl
 | p ::l=>by
   show(PyData.eqv (.int (f p)) (.int (g p)) && PyData.eqvAll (gZ (l.map _)) (gZ (l.map _)))=_
   rw[mO f g l,List.all_cons]
   rfl
theorem yK{α:Type}(f g:α→Int)(l:List α):DX (.lst (l.map fun p=>D.int (f p))) (.lst (l.map fun p=>D.int (g p)))= .ok (l.all fun p=>f p==g p):=by
 have h1:jw 1 (.lst (l.map fun p=>D.int (f p))):=jw.lst fun d hd=>by obtain⟨x,_,rfl⟩:=List.mem_map.mp hd;exact jw.int _
 have h2:jw 1 (.lst (l.map fun p=>D.int (g p))):=jw.lst fun d hd=>by obtain⟨x,_,rfl⟩:=List.mem_map.mp hd;exact jw.int _
 rw[EH,h1.pl,h1.sh (by omega),h2.pl,h2.sh (by omega),←mO]
 rfl
end MT
end
section
set_option Elab.async false
set_option linter.all false
set_option maxRecDepth 100000
set_option maxHeartbeats 4000000
namespace K16
open PySem PySem.Spec PyProof.Rows L2 L3
noncomputable def top(i:Nat):Stmt:=PySem.Challenge.pw_bearfaults_k16_threes_and_pairs.main.body.getD i (.Pass ⟨0,0,0,0⟩)
structure Tp (K:PySem.W.Frag) (mg:Str→Option Value) (cl:Nat→Addr):Prop where
 z_enumerate:mg (Str.ofString "enumerate")=none
 z_range:mg (Str.ofString "range")=none
 z_len:mg (Str.ofString "len")=none
 z_tuple:mg (Str.ofString "tuple")=none
 z_reversed:mg (Str.ofString "reversed")=none
 z_zip:mg (Str.ofString "zip")=none
 z_abs:mg (Str.ofString "abs")=none
 z_min:mg (Str.ofString "min")=none
 z_max:mg (Str.ofString "max")=none
 z_sum:mg (Str.ofString "sum")=none
 z_int:mg (Str.ofString "int")=none
 z_list:mg (Str.ofString "list")=none
 C_Bench:tH K (cl 0)
 N_Bench_net:df K (cl 0) (Str.ofString "net")
 N_Bench_many_inputs:df K (cl 0) (Str.ofString "many_inputs")
 N_Bench_full:df K (cl 0) (Str.ofString "full")
 N_Bench_in_masks:df K (cl 0) (Str.ofString "in_masks")
 M_Bench:mg (Str.ofString "Bench")=some (.ref (cl 0))
 C_Trial:tH K (cl 1)
 N_Trial_bench:df K (cl 1) (Str.ofString "bench")
 N_Trial_plain:df K (cl 1) (Str.ofString "plain")
 N_Trial_unsure:df K (cl 1) (Str.ofString "unsure")
 M_Trial:mg (Str.ofString "Trial")=some (.ref (cl 1))
noncomputable abbrev eS:Stmt:=top 2
noncomputable abbrev rS:List Str:=[(Str.ofString "masks")]
noncomputable def vN:{b:List Stmt // ai eS=b}:=by
 have e:ai eS=ai eS:=rfl
 conv at e=>rhs;whnf
 exact⟨_,e⟩
noncomputable def qy:{b:Scope // ae eS=b}:=by
 have e:ae eS=ae eS:=rfl
 conv at e=>rhs;whnf
 exact⟨_,e⟩
theorem yr:aY rS [(Str.ofString "masks")] qy.1:=⟨rfl,rfl,rfl,by decide+kernel,rfl,by decide+kernel,by decide+kernel⟩
noncomputable def rF:FS:=(dQ (e2 BW (e2 BW (e2 zp (e2 cb (af 0) (eC (.int 0))) (e2 cb (af 0) (eC (.int 1)))) (e2 zp (e2 cb (af 0) (eC (.int 0))) (e2 cb (af 0) (eC (.int 2))))) (e2 zp (e2 cb (af 0) (eC (.int 1))) (e2 cb (af 0) (eC (.int 2))))))
noncomputable def fR:List D→R D:=mj rS rF
theorem y1{P:Program}{w:World}{K:PySem.W.Frag}{mg:Str→Option Value}{base:Heap}{cl:Nat→Addr}(T:Tp K mg cl)(h:Def K mg (Str.ofString "vote_of") eS):Callee P w K mg base 1 (Str.ofString "vote_of") 1 fR:=by
 obtain⟨f,fd,F,hm⟩:=h
 exact⟨f,fd,_,cA (k:=0) vN.2 qy.2 F yr (fun cdv A outer s H E hr=>(aO (bw (aD u9 (aD u9 (aD u6 (az (aa 0) ag (fun _ _=>rfl)) (az (aa 0) ag (fun _ _=>rfl))) (aD u6 (az (aa 0) ag (fun _ _=>rfl)) (az (aa 0) ag (fun _ _=>rfl)))) (aD u6 (az (aa 0) ag (fun _ _=>rfl)) (az (aa 0) ag (fun _ _=>rfl))))))),hm,F.kp,F.binds fun _ _ _ _ _ _ us hl=>match us,hl with | [_],_=>rfl⟩
noncomputable abbrev dD:Stmt:=top 3
noncomputable abbrev km:List Str:=[(Str.ofString "kind"),(Str.ofString "masks"),(Str.ofString "full")]
noncomputable def sv:{b:List Stmt // ai dD=b}:=by
 have e:ai dD=ai dD:=rfl
 conv at e=>rhs;whnf
 exact⟨_,e⟩
noncomputable def mw:{b:Scope // ae dD=b}:=by
 have e:ae dD=ae dD:=rfl
 conv at e=>rhs;whnf
 exact⟨_,e⟩
theorem t9:aY km [(Str.ofString "kind"),(Str.ofString "masks"),(Str.ofString "full")] mw.1:=⟨rfl,rfl,rfl,by decide+kernel,rfl,by decide+kernel,by decide+kernel⟩
noncomputable def n9:FS:=(dj (mr (b2 jA (af 0) (eC (.str (Str.ofString "not")))) (dQ (e2 zk (af 2) (e2 cb (af 1) (eC (.int 0))))) gU) (dj (mr (b2 jA (af 0) (eC (.str (Str.ofString "and")))) (dQ (e2 zp (e2 cb (af 1) (eC (.int 0))) (e2 cb (af 1) (eC (.int 1))))) gU) (dj (mr (b2 jA (af 0) (eC (.str (Str.ofString "or")))) (dQ (e2 BW (e2 cb (af 1) (eC (.int 0))) (e2 cb (af 1) (eC (.int 1))))) gU) (dj (mr (b2 jA (af 0) (eC (.str (Str.ofString "xor")))) (dQ (e2 zk (e2 cb (af 1) (eC (.int 0))) (e2 cb (af 1) (eC (.int 1))))) gU) (dQ (aK fR (aj (af 1) aI)))))))
noncomputable def fQ:List D→R D:=mj km n9
theorem uj{P:Program}{w:World}{K:PySem.W.Frag}{mg:Str→Option Value}{base:Heap}{cl:Nat→Addr}(T:Tp K mg cl)(h:Def K mg (Str.ofString "gate_mask") dD)(C_vote_of:Callee P w K mg base 1 (Str.ofString "vote_of") 1 fR):Callee P w K mg base 2 (Str.ofString "gate_mask") 3 fQ:=by
 obtain⟨f,fd,F,hm⟩:=h
 exact⟨f,fd,_,cA (k:=1) sv.2 mw.2 F t9 (fun cdv A outer s H E hr=>(aV (eF (bW (jS hr.units) (aa 0) aZ (ck _)) (aO (bw (aD uu (aa 2) (az (aa 1) ag (fun _ _=>rfl))))) du) (aV (eF (bW (jS hr.units) (aa 0) aZ (ck _)) (aO (bw (aD u6 (az (aa 1) ag (fun _ _=>rfl)) (az (aa 1) ag (fun _ _=>rfl))))) du) (aV (eF (bW (jS hr.units) (aa 0) aZ (ck _)) (aO (bw (aD u9 (az (aa 1) ag (fun _ _=>rfl)) (az (aa 1) ag (fun _ _=>rfl))))) du) (aV (eF (bW (jS hr.units) (aa 0) aZ (ck _)) (aO (bw (aD uu (az (aa 1) ag (fun _ _=>rfl)) (az (aa 1) ag (fun _ _=>rfl))))) du) (aO (bw (bU C_vote_of hr (by decide) rfl (ab (aa 1) ah) (aL cw))))))))),hm,F.kp,F.binds fun _ _ _ _ _ _ us hl=>match us,hl with | [_,_,_],_=>rfl⟩
noncomputable abbrev bV:Stmt:=top 4
noncomputable abbrev fH:List Str:=[(Str.ofString "ins"),(Str.ofString "in_masks"),(Str.ofString "full"),(Str.ofString "bad"),(Str.ofString "wires"),(Str.ofString "place"),(Str.ofString "mask"),(Str.ofString "figure")]
noncomputable def nG:{b:List Stmt // ai bV=b}:=by
 have e:ai bV=ai bV:=rfl
 conv at e=>rhs;whnf
 exact⟨_,e⟩
noncomputable def jt:{b:Scope // ae bV=b}:=by
 have e:ae bV=ae bV:=rfl
 conv at e=>rhs;whnf
 exact⟨_,e⟩
theorem en:aY fH [(Str.ofString "ins"),(Str.ofString "in_masks"),(Str.ofString "full"),(Str.ofString "bad")] jt.1:=⟨rfl,rfl,rfl,by decide+kernel,rfl,by decide+kernel,by decide+kernel⟩
noncomputable def f9:FZ:=(lg 4 (xT (wx (b2 oM (aK dz (aj (af 4) aI)) (af 3)) (e2 zk (af 2) (af 6)) (af 6))))
noncomputable def i3:FZ:=(jM (iP (dn (e2 cb (e2 cb (af 0) (af 5)) (eC (.int 1))))) (jk 7) f9)
noncomputable def gW:FZ:=(bN (dh 4 (lH (fJ aI))) (bN (jM (iP (xi (af 1))) (u7 2 (oF (jk 5) (oF (jk 6) vp))) i3) (iR (cF 4))))
noncomputable def c_:List V3→aN→R3 V3:=mi fH gW
noncomputable def nP:List V3→aN→R3 V3:=n4 fH gW
theorem oS{P:Program}{w:World}{K:PySem.W.Frag}{mg:Str→Option Value}{base:Heap}{cl:Nat→Addr}(T:Tp K mg cl)(h:Def K mg (Str.ofString "in_wire_masks") bV):aP P w K mg base cl 1 (Str.ofString "in_wire_masks") 4 c_:=by
 obtain⟨f,fd,F,hm⟩:=h
 exact⟨f,fd,_,cv (k:=0) nG.2 jt.2 F en (fun cdv A outer s H E hr=>(aw (bB en.nd rfl (Or.inl rfl) (gy (cV ah))) (aw (eR PassesOwn.never rfl (cQ (vF (aa 1) rfl T.z_enumerate)) (jJ rfl (cu (bb en.nd rfl (Or.inl rfl)) (cu (bb en.nd rfl (Or.inl rfl)) iz))) (aU (eR PassesOwn.never rfl (cQ (bG (az (az (aa 0) (aa 5) (fun _ _=>rfl)) ag (fun _ _=>rfl)) rfl T.z_range)) (bb en.nd rfl (Or.inl rfl)) (aU (iO rfl (Or.inl rfl) (d_ (wc (bW zj (aR er rfl T.z_len PySem.boot_len (ab (aa 4) ah)) (aa 3) (by with_unfolding_all rfl)) (aD uu (aa 2) (aa 6)) (aa 6)))))))) (aU (dZ (bt 4)))))),hm,F.kp,F.binds fun _ _ _ _ _ _ us hl=>match us,hl with | [_,_,_,_],_=>rfl⟩
noncomputable abbrev d8:Stmt:=top 5
noncomputable abbrev lO:List Str:=[(Str.ofString "wires"),(Str.ofString "numbers")]
noncomputable def uP:{b:List Stmt // ai d8=b}:=by
 have e:ai d8=ai d8:=rfl
 conv at e=>rhs;whnf
 exact⟨_,e⟩
noncomputable def kA:{b:Scope // ae d8=b}:=by
 have e:ae d8=ae d8:=rfl
 conv at e=>rhs;whnf
 exact⟨_,e⟩
theorem wk:aY lO [(Str.ofString "wires"),(Str.ofString "numbers")] kA.1:=⟨rfl,rfl,rfl,by decide+kernel,rfl,by decide+kernel,by decide+kernel⟩
noncomputable def pk:FS:=(dQ (aK fg (aj (eNew (fu (et (af 1)) (aJ 0) jH (e2 cb (af 1) (af 0)) [(Str.ofString "number")] [0])) aI)))
noncomputable def eK:List D→R D:=mj lO pk
theorem wq{P:Program}{w:World}{K:PySem.W.Frag}{mg:Str→Option Value}{base:Heap}{cl:Nat→Addr}(T:Tp K mg cl)(h:Def K mg (Str.ofString "masks_at") d8):Callee P w K mg base 1 (Str.ofString "masks_at") 2 eK:=by
 obtain⟨f,fd,F,hm⟩:=h
 exact⟨f,fd,_,cA (k:=0) uP.2 kA.2 F wk (fun cdv A outer s H E hr=>(aO (bw (eN o_ rfl T.z_tuple PyProof.Rows.boot_tuple (ab (di (dR rfl (cf.of (own:=[(Str.ofString "number")]) (kp:=[0]) (kn:=[(Str.ofString "wires")]) (sc:=kA.1) (N:=lO) rfl rfl (by decide+kernel)) (cx (aa 1)) (fun _ _ _=>(aS (show List.Nodup [(Str.ofString "number"),(Str.ofString "wires")] from by decide+kernel) rfl (Or.inl rfl))) (fun _ _ _=>dq) (fun _ _ _=>(az (aa 1) (aa 0) (fun _ _=>rfl))))) ah))))),hm,F.kp,F.binds fun _ _ _ _ _ _ us hl=>match us,hl with | [_,_],_=>rfl⟩
noncomputable abbrev cS:Stmt:=top 6
noncomputable abbrev hX:List Str:=[(Str.ofString "net"),(Str.ofString "in_masks"),(Str.ofString "full"),(Str.ofString "turned"),(Str.ofString "bad"),(Str.ofString "wires"),(Str.ofString "place"),(Str.ofString "gate"),(Str.ofString "mask")]
noncomputable def qP:{b:List Stmt // ai cS=b}:=by
 have e:ai cS=ai cS:=rfl
 conv at e=>rhs;whnf
 exact⟨_,e⟩
noncomputable def lF:{b:Scope // ae cS=b}:=by
 have e:ae cS=ae cS:=rfl
 conv at e=>rhs;whnf
 exact⟨_,e⟩
theorem gb:aY hX [(Str.ofString "net"),(Str.ofString "in_masks"),(Str.ofString "full"),(Str.ofString "turned"),(Str.ofString "bad")] lF.1:=⟨rfl,rfl,rfl,by decide+kernel,rfl,by decide+kernel,by decide+kernel⟩
noncomputable def iH:FZ:=(bN (dh 8 (xT (aK fQ (aj (e2 cb (af 7) (eC (.int 0))) (aj (aK eK (aj (af 5) (aj (e2 cb (af 7) (eC (.int 1))) aI))) (aj (af 2) aI)))))) (lg 5 (xP (wx (b2 oM (af 6) (af 3)) (e2 zk (af 2) (af 8)) (af 8)))))
noncomputable def jF:FZ:=(bN (dh 5 (dc c_ (aA (xP (e2 cb (af 0) (eC (.int 0)))) (aA (xP (af 1)) (aA (xP (af 2)) (aA (xP (af 4)) cR)))))) (bN (jM (iP (ji (e2 cb (af 0) (eC (.int 1))))) (u7 2 (oF (jk 6) (oF (jk 7) vp))) iH) (iR (cF 5))))
noncomputable def lA:List V3→aN→R3 V3:=mi hX jF
noncomputable def fB:List V3→aN→R3 V3:=n4 hX jF
theorem rW{P:Program}{w:World}{K:PySem.W.Frag}{mg:Str→Option Value}{base:Heap}{cl:Nat→Addr}(T:Tp K mg cl)(h:Def K mg (Str.ofString "wire_masks") cS)(C_masks_at:Callee P w K mg base 1 (Str.ofString "masks_at") 2 eK)(C_gate_mask:Callee P w K mg base 2 (Str.ofString "gate_mask") 3 fQ)(XK_in_wire_masks:aP P w K mg base cl 1 (Str.ofString "in_wire_masks") 4 c_):aP P w K mg base cl 3 (Str.ofString "wire_masks") 5 lA:=by
 obtain⟨f,fd,F,hm⟩:=h
 exact⟨f,fd,_,cv (k:=2) qP.2 lF.2 F gb (fun cdv A outer s H E hr=>(aw (bB gb.nd rfl (Or.inl rfl) (bS XK_in_wire_masks hr (by decide) rfl (ao (au (az (aa 0) ag (fun _ _=>rfl))) (ao (au (aa 1)) (ao (au (aa 2)) (ao (au (aa 4)) aT)))) (aq (aq (aq (aq aW)))))) (aw (eR PassesOwn.never rfl (cQ (nC (az (aa 0) ag (fun _ _=>rfl)) rfl T.z_enumerate)) (jJ rfl (cu (bb gb.nd rfl (Or.inl rfl)) (cu (bb gb.nd rfl (Or.inl rfl)) iz))) (aw (bB gb.nd rfl (Or.inl rfl) (d_ (bU C_gate_mask hr (by decide) rfl (ab (az (aa 7) ag (fun _ _=>rfl)) (ab (bU C_masks_at hr (by decide) rfl (ab (aa 5) (ab (az (aa 7) ag (fun _ _=>rfl)) ah)) (aL (aL cw))) (ab (aa 2) ah))) (aL (aL (aL cw)))))) (aU (iO rfl (Or.inl rfl) (au (wc (bW zj (aa 6) (aa 3) (by with_unfolding_all rfl)) (aD uu (aa 2) (aa 8)) (aa 8))))))) (aU (dZ (bt 5)))))),hm,F.kp,F.binds fun _ _ _ _ _ _ us hl=>match us,hl with | [_,_,_,_,_],_=>rfl⟩
noncomputable abbrev dC:Stmt:=top 7
noncomputable abbrev gS:List Str:=[(Str.ofString "net"),(Str.ofString "wires")]
noncomputable def sL:{b:List Stmt // ai dC=b}:=by
 have e:ai dC=ai dC:=rfl
 conv at e=>rhs;whnf
 exact⟨_,e⟩
noncomputable def jX:{b:Scope // ae dC=b}:=by
 have e:ae dC=ae dC:=rfl
 conv at e=>rhs;whnf
 exact⟨_,e⟩
theorem ua:aY gS [(Str.ofString "net"),(Str.ofString "wires")] jX.1:=⟨rfl,rfl,rfl,by decide+kernel,rfl,by decide+kernel,by decide+kernel⟩
noncomputable def kh:FZ:=(iR (lH (fu (et (e2 cb (af 0) (eC (.int 2)))) (fS 2 (b_ (aJ 0) (b_ (aJ 1) fU))) jH (aK eK (aj (af 2) (aj (af 1) aI))) [(Str.ofString "name"),(Str.ofString "numbers")] [1])))
noncomputable def m6:List V3→aN→R3 V3:=mi gS kh
noncomputable def f_:List V3→aN→R3 V3:=n4 gS kh
theorem t6{P:Program}{w:World}{K:PySem.W.Frag}{mg:Str→Option Value}{base:Heap}{cl:Nat→Addr}(T:Tp K mg cl)(h:Def K mg (Str.ofString "out_masks") dC)(C_masks_at:Callee P w K mg base 1 (Str.ofString "masks_at") 2 eK):aP P w K mg base cl 2 (Str.ofString "out_masks") 2 m6:=by
 obtain⟨f,fd,F,hm⟩:=h
 exact⟨f,fd,_,cv (k:=1) sL.2 jX.2 F ua (fun cdv A outer s H E hr=>(aU (dZ (gy (dR rfl (cf.of (own:=[(Str.ofString "name"),(Str.ofString "numbers")]) (kp:=[1]) (kn:=[(Str.ofString "wires")]) (sc:=jX.1) (N:=gS) rfl rfl (by decide+kernel)) (cx (az (aa 0) ag (fun _ _=>rfl))) (fun _ _ _=>(jz rfl (cy (aS (show List.Nodup [(Str.ofString "name"),(Str.ofString "numbers"),(Str.ofString "wires")] from by decide+kernel) rfl (Or.inl rfl)) (cy (aS (show List.Nodup [(Str.ofString "name"),(Str.ofString "numbers"),(Str.ofString "wires")] from by decide+kernel) rfl (Or.inl rfl)) ic)))) (fun _ _ _=>dq) (fun _ _ _=>(bU C_masks_at hr (by decide) rfl (ab (aa 2) (ab (aa 1) ah)) (aL (aL cw))))))))),hm,F.kp,F.binds fun _ _ _ _ _ _ us hl=>match us,hl with | [_,_],_=>rfl⟩
noncomputable abbrev eV:Stmt:=top 8
noncomputable abbrev k5:List Str:=[(Str.ofString "masks"),(Str.ofString "full"),(Str.ofString "ones")]
noncomputable def wb:{b:List Stmt // ai eV=b}:=by
 have e:ai eV=ai eV:=rfl
 conv at e=>rhs;whnf
 exact⟨_,e⟩
noncomputable def qu:{b:Scope // ae eV=b}:=by
 have e:ae eV=ae eV:=rfl
 conv at e=>rhs;whnf
 exact⟨_,e⟩
theorem rK:aY k5 [(Str.ofString "masks"),(Str.ofString "full")] qu.1:=⟨rfl,rfl,rfl,by decide+kernel,rfl,by decide+kernel,by decide+kernel⟩
noncomputable def rE:FS:=(dj (mr (b2 jA (aK dz (aj (af 0) aI)) (eC (.int 2))) (dQ (cP (aj (e2 zk (af 1) (e2 BW (e2 cb (af 0) (eC (.int 0))) (e2 cb (af 0) (eC (.int 1))))) (aj (e2 zp (e2 cb (af 0) (eC (.int 0))) (e2 cb (af 0) (eC (.int 1)))) aI)))) gU) (dj (il 2 (wx (b2 jA (aK dz (aj (af 0) aI)) (eC (.int 1))) (e2 cb (af 0) (eC (.int 0))) (aK fR (aj (af 0) aI)))) (dQ (cP (aj (e2 zk (af 1) (af 2)) (aj (af 2) aI))))))
noncomputable def ie:List D→R D:=mj k5 rE
theorem yt{P:Program}{w:World}{K:PySem.W.Frag}{mg:Str→Option Value}{base:Heap}{cl:Nat→Addr}(T:Tp K mg cl)(h:Def K mg (Str.ofString "reading") eV)(C_vote_of:Callee P w K mg base 1 (Str.ofString "vote_of") 1 fR):Callee P w K mg base 2 (Str.ofString "reading") 2 ie:=by
 obtain⟨f,fd,F,hm⟩:=h
 exact⟨f,fd,_,cA (k:=1) wb.2 qu.2 F rK (fun cdv A outer s H E hr=>(aV (eF (bW (jS hr.units) (aR er rfl T.z_len PySem.boot_len (ab (aa 0) ah)) ag (ck _)) (aO (bw (bE (ab (aD uu (aa 1) (aD u9 (az (aa 0) ag (fun _ _=>rfl)) (az (aa 0) ag (fun _ _=>rfl)))) (ab (aD u6 (az (aa 0) ag (fun _ _=>rfl)) (az (aa 0) ag (fun _ _=>rfl))) ah))))) du) (aV (fm rK.nd rfl (Or.inl rfl) (wc (bW (jS hr.units) (aR er rfl T.z_len PySem.boot_len (ab (aa 0) ah)) ag (ck _)) (az (aa 0) ag (fun _ _=>rfl)) (bU C_vote_of hr (by decide) rfl (ab (aa 0) ah) (aL cw)))) (aO (bw (bE (ab (aD uu (aa 1) (aa 2)) (ab (aa 2) ah)))))))),hm,F.kp,F.binds fun _ _ _ _ _ _ us hl=>match us,hl with | [_,_],_=>rfl⟩
noncomputable abbrev f6:Stmt:=top 9
noncomputable abbrev t_:List Str:=[(Str.ofString "mask"),(Str.ofString "number")]
noncomputable def y3:{b:List Stmt // ai f6=b}:=by
 have e:ai f6=ai f6:=rfl
 conv at e=>rhs;whnf
 exact⟨_,e⟩
noncomputable def rA:{b:Scope // ae f6=b}:=by
 have e:ae f6=ae f6:=rfl
 conv at e=>rhs;whnf
 exact⟨_,e⟩
theorem AO:aY t_ [(Str.ofString "mask"),(Str.ofString "number")] rA.1:=⟨rfl,rfl,rfl,by decide+kernel,rfl,by decide+kernel,by decide+kernel⟩
noncomputable def uv:FS:=(dQ (e2 zp (e2 nL (af 0) (af 1)) (eC (.int 1))))
noncomputable def jB:List D→R D:=mj t_ uv
theorem zP{P:Program}{w:World}{K:PySem.W.Frag}{mg:Str→Option Value}{base:Heap}{cl:Nat→Addr}(T:Tp K mg cl)(h:Def K mg (Str.ofString "bit_at") f6):Callee P w K mg base 1 (Str.ofString "bit_at") 2 jB:=by
 obtain⟨f,fd,F,hm⟩:=h
 exact⟨f,fd,_,cA (k:=0) y3.2 rA.2 F AO (fun cdv A outer s H E hr=>(aO (bw (aD u6 (aD Ha (aa 0) (aa 1)) ag)))),hm,F.kp,F.binds fun _ _ _ _ _ _ us hl=>match us,hl with | [_,_],_=>rfl⟩
noncomputable abbrev cX:Stmt:=top 10
noncomputable abbrev g9:List Str:=[(Str.ofString "count"),(Str.ofString "inputs"),(Str.ofString "place"),(Str.ofString "longer"),(Str.ofString "bits")]
noncomputable def qE:{b:List Stmt // ai cX=b}:=by
 have e:ai cX=ai cX:=rfl
 conv at e=>rhs;whnf
 exact⟨_,e⟩
noncomputable def lD:{b:Scope // ae cX=b}:=by
 have e:ae cX=ae cX:=rfl
 conv at e=>rhs;whnf
 exact⟨_,e⟩
theorem eT:aY g9 [(Str.ofString "count")] lD.1:=⟨rfl,rfl,rfl,by decide+kernel,rfl,by decide+kernel,by decide+kernel⟩
noncomputable def kl:FZ:=(bN (lg 3 (xP (e2 jy (af 4) (cP (aj (eC (.int 0)) aI))))) (lg 3 (xP (e2 jy (af 4) (cP (aj (eC (.int 1)) aI))))))
noncomputable def kR:FZ:=(AA 1 (bN (dh 3 (lH (fJ aI))) (bN (jM (iP (et (af 1))) (jk 4) kl) (dh 1 (cF 3)))))
noncomputable def jW:FZ:=(bN (dh 1 (lH (fJ (aj (cP aI) aI)))) (bN (jM (iP (dn (af 0))) (jk 2) kR) (iR (cF 1))))
noncomputable def lB:List V3→aN→R3 V3:=mi g9 jW
noncomputable def fA:List V3→aN→R3 V3:=n4 g9 jW
theorem sQ{P:Program}{w:World}{K:PySem.W.Frag}{mg:Str→Option Value}{base:Heap}{cl:Nat→Addr}(T:Tp K mg cl)(h:Def K mg (Str.ofString "all_inputs") cX):aP P w K mg base cl 1 (Str.ofString "all_inputs") 1 lB:=by
 obtain⟨f,fd,F,hm⟩:=h
 exact⟨f,fd,_,cv (k:=0) qE.2 lD.2 F eT (fun cdv A outer s H E hr=>(aw (bB eT.nd rfl (Or.inl rfl) (gy (cV (ab (bE ah) ah)))) (aw (eR PassesOwn.never rfl (cQ (bG (aa 0) rfl T.z_range)) (bb eT.nd rfl (Or.inl rfl)) (DB 1 (aw (bB eT.nd rfl (Or.inl rfl) (gy (cV ah))) (aw (eR PassesOwn.never rfl (cQ (cx (aa 1))) (bb eT.nd rfl (Or.inl rfl)) (aw (iO rfl (Or.inl rfl) (au (aD lT (aa 4) (bE (ab ag ah))))) (aU (iO rfl (Or.inl rfl) (au (aD lT (aa 4) (bE (ab ag ah)))))))) (aU (bB eT.nd rfl (Or.inl rfl) (bt 3))))))) (aU (dZ (bt 1)))))),hm,F.kp,F.binds fun _ _ _ _ _ _ us hl=>match us,hl with | [_],_=>rfl⟩
noncomputable abbrev eZ:Stmt:=top 11
noncomputable abbrev nS:List Str:=[(Str.ofString "bits"),(Str.ofString "mask"),(Str.ofString "bit")]
noncomputable def vv:{b:List Stmt // ai eZ=b}:=by
 have e:ai eZ=ai eZ:=rfl
 conv at e=>rhs;whnf
 exact⟨_,e⟩
noncomputable def qt:{b:Scope // ae eZ=b}:=by
 have e:ae eZ=ae eZ:=rfl
 conv at e=>rhs;whnf
 exact⟨_,e⟩
theorem k4:aY nS [(Str.ofString "bits")] qt.1:=⟨rfl,rfl,rfl,by decide+kernel,rfl,by decide+kernel,by decide+kernel⟩
noncomputable def kN:FS:=(il 1 (e2 eE (e2 ju (af 1) (eC (.int 2))) (af 2)))
noncomputable def qS:FS:=(dj (il 1 (eC (.int 0))) (dj (mE (Ek (af 0)) (aJ 2) kN) (dQ (af 1))))
noncomputable def fM:List D→R D:=mj nS qS
theorem yA{P:Program}{w:World}{K:PySem.W.Frag}{mg:Str→Option Value}{base:Heap}{cl:Nat→Addr}(T:Tp K mg cl)(h:Def K mg (Str.ofString "mask_of") eZ):Callee P w K mg base 1 (Str.ofString "mask_of") 1 fM:=by
 obtain⟨f,fd,F,hm⟩:=h
 exact⟨f,fd,_,cA (k:=0) vv.2 qt.2 F k4 (fun cdv A outer s H E hr=>(aV (fm k4.nd rfl (Or.inl rfl) ag) (aV (fw PassesOwn.never rfl (Ah (aa 0) rfl T.z_reversed) (aS k4.nd rfl (Or.inl rfl)) (aO (fm k4.nd rfl (Or.inl rfl) (aD gx (aD qj (aa 1) ag) (aa 2))))) (aO (bw (aa 1)))))),hm,F.kp,F.binds fun _ _ _ _ _ _ us hl=>match us,hl with | [_],_=>rfl⟩
noncomputable abbrev e8:Stmt:=top 12
noncomputable abbrev nu:List Str:=[(Str.ofString "inputs"),(Str.ofString "place")]
noncomputable def v_:{b:List Stmt // ai e8=b}:=by
 have e:ai e8=ai e8:=rfl
 conv at e=>rhs;whnf
 exact⟨_,e⟩
noncomputable def lQ:{b:Scope // ae e8=b}:=by
 have e:ae e8=ae e8:=rfl
 conv at e=>rhs;whnf
 exact⟨_,e⟩
theorem y_:aY nu [(Str.ofString "inputs"),(Str.ofString "place")] lQ.1:=⟨rfl,rfl,rfl,by decide+kernel,rfl,by decide+kernel,by decide+kernel⟩
noncomputable def rH:FS:=(dQ (aK fM (aj (eNew (fu (et (af 0)) (aJ 0) jH (e2 cb (af 0) (af 1)) [(Str.ofString "bits")] [1])) aI)))
noncomputable def ia:List D→R D:=mj nu rH
theorem yS{P:Program}{w:World}{K:PySem.W.Frag}{mg:Str→Option Value}{base:Heap}{cl:Nat→Addr}(T:Tp K mg cl)(h:Def K mg (Str.ofString "in_mask") e8)(C_mask_of:Callee P w K mg base 1 (Str.ofString "mask_of") 1 fM):Callee P w K mg base 2 (Str.ofString "in_mask") 2 ia:=by
 obtain⟨f,fd,F,hm⟩:=h
 exact⟨f,fd,_,cA (k:=1) v_.2 lQ.2 F y_ (fun cdv A outer s H E hr=>(aO (bw (bU C_mask_of hr (by decide) rfl (ab (di (dR rfl (cf.of (own:=[(Str.ofString "bits")]) (kp:=[1]) (kn:=[(Str.ofString "place")]) (sc:=lQ.1) (N:=nu) rfl rfl (by decide+kernel)) (cx (aa 0)) (fun _ _ _=>(aS (show List.Nodup [(Str.ofString "bits"),(Str.ofString "place")] from by decide+kernel) rfl (Or.inl rfl))) (fun _ _ _=>dq) (fun _ _ _=>(az (aa 0) (aa 1) (fun _ _=>rfl))))) ah) (aL cw))))),hm,F.kp,F.binds fun _ _ _ _ _ _ us hl=>match us,hl with | [_,_],_=>rfl⟩
noncomputable abbrev eU:Stmt:=top 15
noncomputable abbrev js:List Str:=[(Str.ofString "places"),(Str.ofString "size"),(Str.ofString "found"),(Str.ofString "ahead"),(Str.ofString "place"),(Str.ofString "rest")]
noncomputable def wO:{b:List Stmt // ai eU=b}:=by
 have e:ai eU=ai eU:=rfl
 conv at e=>rhs;whnf
 exact⟨_,e⟩
noncomputable def pf:{b:Scope // ae eU=b}:=by
 have e:ae eU=ae eU:=rfl
 conv at e=>rhs;whnf
 exact⟨_,e⟩
theorem jD:aY js [(Str.ofString "places"),(Str.ofString "size")] pf.1:=⟨rfl,rfl,rfl,by decide+kernel,rfl,by decide+kernel,by decide+kernel⟩
noncomputable def kP(self:List D→R D):FS:=(l0 2 (e2 jy (cP (aj (af 4) aI)) (af 5)))
noncomputable def ki(self:List D→R D):FS:=(mE (et (aK self (aj (wj (af 0) (g6 (e2 jy (af 3) (eC (.int 1)))) j7) (aj (e2 jr (af 1) (eC (.int 1))) aI)))) (aJ 5) (kP self))
noncomputable def jo(self:List D→R D):FS:=(dj (mr (b2 jA (af 1) (eC (.int 0))) (dQ (eNew (fJ (aj (cP aI) aI)))) gU) (dj (lG 2 (fJ aI)) (dj (mE (ji (af 0)) (fS 2 (b_ (aJ 3) (b_ (aJ 4) fU))) (ki self)) (nk 2 (dQ (af 2))))))
noncomputable def dU:Nat→List D→R D
 | 0=>fun _=> .no
 | n+1=>mj js (jo (dU n))
theorem rp{P:Program}{w:World}{K:PySem.W.Frag}{mg:Str→Option Value}{base:Heap}{cl:Nat→Addr}(T:Tp K mg cl)(h:Def K mg (Str.ofString "choices") eU):∀n,Callee P w K mg base (1+n) (Str.ofString "choices") 2 (dU n)
 | 0=>by
   obtain⟨f,fd,F,hm⟩:=h
   exact⟨f,fd,[(Str.ofString "places"),(Str.ofString "size")],GP,hm,F.kp,F.binds fun _ _ _ _ _ _ us hl=>match us,hl with | [_,_],_=>rfl⟩
 | n+1=>by
   have C_self:=rp (P:=P) (w:=w) (K:=K) (mg:=mg) (base:=base) T h n
   obtain⟨f,fd,F,hm⟩:=h
   exact⟨f,fd,_,cA (k:=1+n) wO.2 pf.2 F jD (fun cdv A outer s H E hr=>(aV (eF (bW (jS hr.units) (aa 1) ag (ck _)) (aO (bw (di (cV (ab (bE ah) ah))))) du) (aV (uk jD.nd rfl (Or.inl rfl) (cV ah)) (aV (fw PassesOwn.never rfl (nC (aa 0) rfl T.z_enumerate) (jz rfl (cy (aS jD.nd rfl (Or.inl rfl)) (cy (aS jD.nd rfl (Or.inl rfl)) ic))) (aO (fw PassesOwn.never rfl (cx (bU C_self hr (by omega) rfl (ab (vO (aa 0) (mN (aD lT (aa 3) ag)) uf) (ab (aD ox (aa 1) ag) ah)) (aL (aL cw)))) (aS jD.nd rfl (Or.inl rfl)) (aO (pq rfl (Or.inl rfl) (aD lT (bE (ab (aa 4) ah)) (aa 5))))))) (t7 2 (aO (bw (aa 2)))))))),hm,F.kp,F.binds fun _ _ _ _ _ _ us hl=>match us,hl with | [_,_],_=>rfl⟩
noncomputable abbrev bf:Stmt:=inClass (top 13) 0
noncomputable abbrev c7:List Str:=[(Str.ofString "self"),(Str.ofString "net"),(Str.ofString "inputs")]
noncomputable def mZ:{b:List Stmt // ai bf=b}:=by
 have e:ai bf=ai bf:=rfl
 conv at e=>rhs;whnf
 exact⟨_,e⟩
noncomputable def eH:{b:Scope // ae bf=b}:=by
 have e:ae bf=ae bf:=rfl
 conv at e=>rhs;whnf
 exact⟨_,e⟩
theorem jq:aY c7 [(Str.ofString "self"),(Str.ofString "net")] eH.1:=⟨rfl,rfl,rfl,by decide+kernel,rfl,by decide+kernel,by decide+kernel⟩
noncomputable def gz:FZ:=(bN (dh 2 (dc fA (aA (xP (aK dz (aj (e2 cb (af 1) (eC (.int 0))) aI))) cR))) (bN (tj 0 (Str.ofString "net") (cF 0) (xP (af 1))) (bN (tj 0 (Str.ofString "many_inputs") (cF 0) (xP (aK dz (aj (af 2) aI)))) (bN (tj 0 (Str.ofString "full") (cF 0) (xP (aK fM (aj (eNew (fu (et (af 2)) (aJ 0) jH (eC (.int 1)) [(Str.ofString "bits")] [])) aI)))) (tj 0 (Str.ofString "in_masks") (cF 0) (xP (eNew (fu (dn (aK dz (aj (e2 cb (af 1) (eC (.int 0))) aI))) (aJ 0) jH (aK ia (aj (af 1) (aj (af 0) aI))) [(Str.ofString "place")] [2]))))))))
noncomputable def cL:List V3→aN→R3 V3:=mi c7 gz
noncomputable def xp:List V3→aN→R3 V3:=n4 c7 gz
theorem d4{P:Program}{w:World}{K:PySem.W.Frag}{mg:Str→Option Value}{base:Heap}{cl:Nat→Addr}(T:Tp K mg cl)(h:zc K (cl 0) (Str.ofString "__init__") (Str.ofString "Bench.__init__") bf)(C_mask_of:Callee P w K mg base 1 (Str.ofString "mask_of") 1 fM)(C_in_mask:Callee P w K mg base 2 (Str.ofString "in_mask") 2 ia)(XP_all_inputs:aP P w K mg base cl 1 (Str.ofString "all_inputs") 1 fA):px P w K mg base cl 3 0 (Str.ofString "Bench") 1 cL:=by
 obtain⟨f,fd,F,hm⟩:=h
 exact⟨f,fd,_,hm,cv (k:=2) mZ.2 eH.2 F jq (fun cdv A outer s H E hr=>(aw (bB jq.nd rfl (Or.inr rfl) (bS XP_all_inputs hr (by decide) rfl (ao (au (aR er rfl T.z_len PySem.boot_len (ab (az (aa 1) ag (fun _ _=>rfl)) ah))) aT) (aq aW))) (aw (lK T.C_Bench T.N_Bench_net (bt 0) (au (aa 1))) (aw (lK T.C_Bench T.N_Bench_many_inputs (bt 0) (au (aR er rfl T.z_len PySem.boot_len (ab (aa 2) ah)))) (aw (lK T.C_Bench T.N_Bench_full (bt 0) (au (bU C_mask_of hr (by decide) rfl (ab (di (dR rfl (cf.of (own:=[(Str.ofString "bits")]) (kp:=[]) (kn:=[]) (sc:=eH.1) (N:=c7) rfl rfl (by decide+kernel)) (cx (aa 2)) (fun _ _ _=>(aS (show List.Nodup [(Str.ofString "bits")] from by decide+kernel) rfl (Or.inl rfl))) (fun _ _ _=>dq) (fun _ _ _=>ag))) ah) (aL cw)))) (aU (lK T.C_Bench T.N_Bench_in_masks (bt 0) (au (di (dR rfl (cf.of (own:=[(Str.ofString "place")]) (kp:=[2]) (kn:=[(Str.ofString "inputs")]) (sc:=eH.1) (N:=c7) rfl rfl (by decide+kernel)) (bG (aR er rfl T.z_len PySem.boot_len (ab (az (aa 1) ag (fun _ _=>rfl)) ah)) rfl T.z_range) (fun _ _ _=>(aS (show List.Nodup [(Str.ofString "place"),(Str.ofString "inputs")] from by decide+kernel) rfl (Or.inl rfl))) (fun _ _ _=>dq) (fun _ _ _=>(bU C_in_mask hr (by decide) rfl (ab (aa 1) (ab (aa 0) ah)) (aL (aL cw)))))))))))))),T.M_Bench,F.binds fun _ _ _ _ _ _ us hl=>match us,hl with | [_,_],_=>rfl⟩
noncomputable abbrev bF:Stmt:=inClass (top 13) 1
noncomputable abbrev gI:List Str:=[(Str.ofString "self"),(Str.ofString "turned"),(Str.ofString "bad")]
noncomputable def qi:{b:List Stmt // ai bF=b}:=by
 have e:ai bF=ai bF:=rfl
 conv at e=>rhs;whnf
 exact⟨_,e⟩
noncomputable def kC:{b:Scope // ae bF=b}:=by
 have e:ae bF=ae bF:=rfl
 conv at e=>rhs;whnf
 exact⟨_,e⟩
theorem qL:aY gI [(Str.ofString "self"),(Str.ofString "turned"),(Str.ofString "bad")] kC.1:=⟨rfl,rfl,rfl,by decide+kernel,rfl,by decide+kernel,by decide+kernel⟩
noncomputable def jj:FZ:=(iR (dc f_ (aA (nF 0 (Str.ofString "net") (cF 0)) (aA (dc fB (aA (nF 0 (Str.ofString "net") (cF 0)) (aA (nF 0 (Str.ofString "in_masks") (cF 0)) (aA (nF 0 (Str.ofString "full") (cF 0)) (aA (xP (af 1)) (aA (xP (af 2)) cR)))))) cR))))
noncomputable def kg:List V3→aN→R3 V3:=mi gI jj
noncomputable def eM:List V3→aN→R3 V3:=n4 gI jj
theorem fE{P:Program}{w:World}{K:PySem.W.Frag}{mg:Str→Option Value}{base:Heap}{cl:Nat→Addr}(T:Tp K mg cl)(h:oK K (cl 0) (Str.ofString "tells") (Str.ofString "Bench.tells") bF)(XP_wire_masks:aP P w K mg base cl 3 (Str.ofString "wire_masks") 5 fB)(XP_out_masks:aP P w K mg base cl 2 (Str.ofString "out_masks") 2 f_):ft P w K mg base cl 4 0 (Str.ofString "tells") 2 kg:=by
 obtain⟨f,fd,F,hm⟩:=h
 exact⟨f,fd,_,T.C_Bench,hm,cv (k:=3) qi.2 kC.2 F qL (fun cdv A outer s H E hr=>(aU (dZ (bS XP_out_masks hr (by decide) rfl (ao (iI T.C_Bench T.N_Bench_net (bt 0)) (ao (bS XP_wire_masks hr (by decide) rfl (ao (iI T.C_Bench T.N_Bench_net (bt 0)) (ao (iI T.C_Bench T.N_Bench_in_masks (bt 0)) (ao (iI T.C_Bench T.N_Bench_full (bt 0)) (ao (au (aa 1)) (ao (au (aa 2)) aT))))) (aq (aq (aq (aq (aq aW)))))) aT)) (aq (aq aW)))))),F.binds fun _ _ _ _ _ _ us hl=>match us,hl with | [_,_,_],_=>rfl⟩
noncomputable abbrev bg:Stmt:=inClass (top 13) 2
noncomputable abbrev dS:List Str:=[(Str.ofString "self"),(Str.ofString "turned")]
noncomputable def mL:{b:List Stmt // ai bg=b}:=by
 have e:ai bg=ai bg:=rfl
 conv at e=>rhs;whnf
 exact⟨_,e⟩
noncomputable def fY:{b:Scope // ae bg=b}:=by
 have e:ae bg=ae bg:=rfl
 conv at e=>rhs;whnf
 exact⟨_,e⟩
theorem nR:aY dS [(Str.ofString "self"),(Str.ofString "turned")] fY.1:=⟨rfl,rfl,rfl,by decide+kernel,rfl,by decide+kernel,by decide+kernel⟩
noncomputable def gA:FZ:=(iR (kz (CW (qk 0 (Str.ofString "tells") eM (cF 0) (aA (xP (af 1)) (aA (xP (cP aI)) cR)))) (jk 0) wM (s_ ie (aA (xP (af 0)) (aA (nF 0 (Str.ofString "full") (cF 1)) cR))) [(Str.ofString "masks")] [0]))
noncomputable def i4:List V3→aN→R3 V3:=mi dS gA
noncomputable def cm:List V3→aN→R3 V3:=n4 dS gA
theorem dW{P:Program}{w:World}{K:PySem.W.Frag}{mg:Str→Option Value}{base:Heap}{cl:Nat→Addr}(T:Tp K mg cl)(h:oK K (cl 0) (Str.ofString "readings") (Str.ofString "Bench.readings") bg)(C_reading:Callee P w K mg base 2 (Str.ofString "reading") 2 ie)(XP_Bench_tells:ft P w K mg base cl 4 0 (Str.ofString "tells") 2 eM):ft P w K mg base cl 5 0 (Str.ofString "readings") 1 i4:=by
 obtain⟨f,fd,F,hm⟩:=h
 exact⟨f,fd,_,T.C_Bench,hm,cv (k:=4) mL.2 fY.2 F nR (fun cdv A outer s H E hr=>(aU (dZ (tq rfl (cf.of (own:=[(Str.ofString "masks")]) (kp:=[0]) (kn:=[(Str.ofString "self")]) (sc:=fY.1) (N:=dS) rfl rfl (by decide+kernel)) (wZ (m4 XP_Bench_tells hr (by decide) (bt 0) (ao (au (aa 1)) (ao (au (bE ah)) aT)) (aq (aq aW)))) (fun _ _ _=>(bb (show List.Nodup [(Str.ofString "masks"),(Str.ofString "self")] from by decide+kernel) rfl (Or.inl rfl))) (fun _ _ _=>jC) (fun _ _ _=>(ui C_reading hr (by decide) rfl (ao (au (aa 0)) (ao (iI T.C_Bench T.N_Bench_full (bt 1)) aT)) (aq (aq aW)))))))),F.binds fun _ _ _ _ _ _ us hl=>match us,hl with | [_,_],_=>rfl⟩
noncomputable abbrev bh:Stmt:=inClass (top 16) 0
noncomputable abbrev dY:List Str:=[(Str.ofString "self"),(Str.ofString "net")]
noncomputable def mR:{b:List Stmt // ai bh=b}:=by
 have e:ai bh=ai bh:=rfl
 conv at e=>rhs;whnf
 exact⟨_,e⟩
noncomputable def fX:{b:Scope // ae bh=b}:=by
 have e:ae bh=ae bh:=rfl
 conv at e=>rhs;whnf
 exact⟨_,e⟩
theorem ny:aY dY [(Str.ofString "self"),(Str.ofString "net")] fX.1:=⟨rfl,rfl,rfl,by decide+kernel,rfl,by decide+kernel,by decide+kernel⟩
noncomputable def gE:FZ:=(bN (tj 1 (Str.ofString "bench") (cF 0) (xJ 0 cL (aA (xP (af 1)) cR))) (bN (tj 1 (Str.ofString "plain") (cF 0) (qk 0 (Str.ofString "readings") cm (nF 1 (Str.ofString "bench") (cF 0)) (aA (xP (cP aI)) cR))) (tj 1 (Str.ofString "unsure") (cF 0) (xP (eNew (fu (ji (e2 cb (af 1) (eC (.int 1)))) (fS 2 (b_ (aJ 0) (b_ (aJ 1) fU))) (k8 (k9 (e2 cb (af 1) (eC (.int 2))))) (af 0) [(Str.ofString "place"),(Str.ofString "gate")] []))))))
noncomputable def cN:List V3→aN→R3 V3:=mi dY gE
noncomputable def x3:List V3→aN→R3 V3:=n4 dY gE
theorem d3{P:Program}{w:World}{K:PySem.W.Frag}{mg:Str→Option Value}{base:Heap}{cl:Nat→Addr}(T:Tp K mg cl)(h:zc K (cl 1) (Str.ofString "__init__") (Str.ofString "Trial.__init__") bh)(XK_Bench___init__:px P w K mg base cl 3 0 (Str.ofString "Bench") 1 cL)(XP_Bench_readings:ft P w K mg base cl 5 0 (Str.ofString "readings") 1 cm):px P w K mg base cl 6 1 (Str.ofString "Trial") 1 cN:=by
 obtain⟨f,fd,F,hm⟩:=h
 exact⟨f,fd,_,hm,cv (k:=5) mR.2 fX.2 F ny (fun cdv A outer s H E hr=>(aw (lK T.C_Trial T.N_Trial_bench (bt 0) (xn XK_Bench___init__ hr (by decide) rfl (ao (au (aa 1)) aT) (aq aW))) (aw (lK T.C_Trial T.N_Trial_plain (bt 0) (m4 XP_Bench_readings hr (by decide) (iI T.C_Trial T.N_Trial_bench (bt 0)) (ao (au (bE ah)) aT) (aq aW))) (aU (lK T.C_Trial T.N_Trial_unsure (bt 0) (au (di (dR rfl (cf.of (own:=[(Str.ofString "place"),(Str.ofString "gate")]) (kp:=[]) (kn:=[]) (sc:=fX.1) (N:=dY) rfl rfl (by decide+kernel)) (nC (az (aa 1) ag (fun _ _=>rfl)) rfl T.z_enumerate) (fun _ _ _=>(jz rfl (cy (aS (show List.Nodup [(Str.ofString "place"),(Str.ofString "gate")] from by decide+kernel) rfl (Or.inl rfl)) (cy (aS (show List.Nodup [(Str.ofString "place"),(Str.ofString "gate")] from by decide+kernel) rfl (Or.inl rfl)) ic)))) (fun _ _ _=>(Bh (xm (xo (az (aa 1) ag (fun _ _=>rfl)))))) (fun _ _ _=>(aa 0)))))))))),T.M_Trial,F.binds fun _ _ _ _ _ _ us hl=>match us,hl with | [_,_],_=>rfl⟩
noncomputable abbrev a_:Stmt:=inClass (top 16) 1
noncomputable abbrev eG:List Str:=[(Str.ofString "self"),(Str.ofString "turned"),(Str.ofString "level"),(Str.ofString "mask"),(Str.ofString "before"),(Str.ofString "after")]
noncomputable def lX:{b:List Stmt // ai a_=b}:=by
 have e:ai a_=ai a_:=rfl
 conv at e=>rhs;whnf
 exact⟨_,e⟩
noncomputable def ix:{b:Scope // ae a_=b}:=by
 have e:ae a_=ae a_:=rfl
 conv at e=>rhs;whnf
 exact⟨_,e⟩
theorem cH:aY eG [(Str.ofString "self"),(Str.ofString "turned"),(Str.ofString "level")] ix.1:=⟨rfl,rfl,rfl,by decide+kernel,rfl,by decide+kernel,by decide+kernel⟩
noncomputable def g7:FZ:=(Dw (bP (b2 jA (af 2) (eC (.str (Str.ofString "safe"))))) (dh 3 (xP (e2 BW (e2 BW (af 3) (e2 zp (e2 cb (af 4) (eC (.int 0))) (e2 cb (af 5) (eC (.int 1))))) (e2 zp (e2 cb (af 4) (eC (.int 1))) (e2 cb (af 5) (eC (.int 0))))))) (dh 3 (xP (e2 BW (e2 BW (af 3) (e2 zk (e2 cb (af 4) (eC (.int 0))) (e2 cb (af 5) (eC (.int 0))))) (e2 zk (e2 cb (af 4) (eC (.int 1))) (e2 cb (af 5) (eC (.int 1))))))))
noncomputable def gh:FZ:=(bN (dh 3 (xP (eC (.int 0)))) (bN (jM (E7 (nF 1 (Str.ofString "plain") (cF 0)) (qk 0 (Str.ofString "readings") cm (nF 1 (Str.ofString "bench") (cF 0)) (aA (xP (af 1)) cR))) (u7 2 (oF (jk 4) (oF (jk 5) vp))) g7) (iR (xP (af 3)))))
noncomputable def iG:List V3→aN→R3 V3:=mi eG gh
noncomputable def de:List V3→aN→R3 V3:=n4 eG gh
theorem dE{P:Program}{w:World}{K:PySem.W.Frag}{mg:Str→Option Value}{base:Heap}{cl:Nat→Addr}(T:Tp K mg cl)(h:oK K (cl 1) (Str.ofString "breaks_at") (Str.ofString "Trial.breaks_at") a_)(XP_Bench_readings:ft P w K mg base cl 5 0 (Str.ofString "readings") 1 cm):ft P w K mg base cl 6 1 (Str.ofString "breaks_at") 2 iG:=by
 obtain⟨f,fd,F,hm⟩:=h
 exact⟨f,fd,_,T.C_Trial,hm,cv (k:=5) lX.2 ix.2 F cH (fun cdv A outer s H E hr=>(aw (bB cH.nd rfl (Or.inl rfl) (au ag)) (aw (eR PassesOwn.never rfl (CL (iI T.C_Trial T.N_Trial_plain (bt 0)) (m4 XP_Bench_readings hr (by decide) (iI T.C_Trial T.N_Trial_bench (bt 0)) (ao (au (aa 1)) aT) (aq aW)) rfl T.z_zip) (jJ rfl (cu (bb cH.nd rfl (Or.inl rfl)) (cu (bb cH.nd rfl (Or.inl rfl)) iz))) (aU (qY (m7 (bW (jS hr.units) (aa 2) aZ (ck _))) (aU (bB cH.nd rfl (Or.inl rfl) (au (aD u9 (aD u9 (aa 3) (aD u6 (az (aa 4) ag (fun _ _=>rfl)) (az (aa 5) ag (fun _ _=>rfl)))) (aD u6 (az (aa 4) ag (fun _ _=>rfl)) (az (aa 5) ag (fun _ _=>rfl))))))) (aU (bB cH.nd rfl (Or.inl rfl) (au (aD u9 (aD u9 (aa 3) (aD uu (az (aa 4) ag (fun _ _=>rfl)) (az (aa 5) ag (fun _ _=>rfl)))) (aD uu (az (aa 4) ag (fun _ _=>rfl)) (az (aa 5) ag (fun _ _=>rfl)))))))))) (aU (dZ (au (aa 3))))))),F.binds fun _ _ _ _ _ _ us hl=>match us,hl with | [_,_,_],_=>rfl⟩
noncomputable abbrev aX:Stmt:=inClass (top 13) 4
noncomputable abbrev dy:List Str:=[(Str.ofString "self"),(Str.ofString "mask")]
noncomputable def lM:{b:List Stmt // ai aX=b}:=by
 have e:ai aX=ai aX:=rfl
 conv at e=>rhs;whnf
 exact⟨_,e⟩
noncomputable def fL:{b:Scope // ae aX=b}:=by
 have e:ae aX=ae aX:=rfl
 conv at e=>rhs;whnf
 exact⟨_,e⟩
theorem m5:aY dy [(Str.ofString "self"),(Str.ofString "mask")] fL.1:=⟨rfl,rfl,rfl,by decide+kernel,rfl,by decide+kernel,by decide+kernel⟩
noncomputable def gf:FZ:=(iR (kz (oy (nF 0 (Str.ofString "many_inputs") (cF 0))) (jk 0) (bP (b2 jA (aK jB (aj (af 1) (aj (af 0) aI))) (eC (.int 1)))) (xP (af 0)) [(Str.ofString "number")] [1]))
noncomputable def ip:List V3→aN→R3 V3:=mi dy gf
noncomputable def dg:List V3→aN→R3 V3:=n4 dy gf
theorem dv{P:Program}{w:World}{K:PySem.W.Frag}{mg:Str→Option Value}{base:Heap}{cl:Nat→Addr}(T:Tp K mg cl)(h:oK K (cl 0) (Str.ofString "inputs_in") (Str.ofString "Bench.inputs_in") aX)(C_bit_at:Callee P w K mg base 1 (Str.ofString "bit_at") 2 jB):ft P w K mg base cl 2 0 (Str.ofString "inputs_in") 1 ip:=by
 obtain⟨f,fd,F,hm⟩:=h
 exact⟨f,fd,_,T.C_Bench,hm,cv (k:=1) lM.2 fL.2 F m5 (fun cdv A outer s H E hr=>(aU (dZ (tq rfl (cf.of (own:=[(Str.ofString "number")]) (kp:=[1]) (kn:=[(Str.ofString "mask")]) (sc:=fL.1) (N:=dy) rfl rfl (by decide+kernel)) (jY (iI T.C_Bench T.N_Bench_many_inputs (bt 0)) rfl T.z_range) (fun _ _ _=>(bb (show List.Nodup [(Str.ofString "number"),(Str.ofString "mask")] from by decide+kernel) rfl (Or.inl rfl))) (fun _ _ _=>(AR (m7 (bW (jS hr.units) (bU C_bit_at hr (by decide) rfl (ab (aa 1) (ab (aa 0) ah)) (aL (aL cw))) ag (ck _))))) (fun _ _ _=>(au (aa 0))))))),F.binds fun _ _ _ _ _ _ us hl=>match us,hl with | [_,_],_=>rfl⟩
noncomputable abbrev g_:Stmt:=top 17
noncomputable abbrev oW:List Str:=[(Str.ofString "net"),(Str.ofString "many"),(Str.ofString "level"),(Str.ofString "trial"),(Str.ofString "size"),(Str.ofString "turned"),(Str.ofString "mask")]
noncomputable def BP:{b:List Stmt // ai g_=b}:=by
 have e:ai g_=ai g_:=rfl
 conv at e=>rhs;whnf
 exact⟨_,e⟩
noncomputable def u0:{b:Scope // ae g_=b}:=by
 have e:ae g_=ae g_:=rfl
 conv at e=>rhs;whnf
 exact⟨_,e⟩
theorem mT:aY oW [(Str.ofString "net"),(Str.ofString "many"),(Str.ofString "level")] u0.1:=⟨rfl,rfl,rfl,by decide+kernel,rfl,by decide+kernel,by decide+kernel⟩
noncomputable def nD:FZ:=(bN (dh 6 (qk 1 (Str.ofString "breaks_at") de (cF 3) (aA (xP (af 5)) (aA (xP (af 2)) cR)))) (Dw (bP (b2 tF (af 6) (eC (.int 0)))) (iR (uL (aA (xP (eC (.str (Str.ofString "breaks")))) (aA (xP (af 5)) (aA (GB (qk 0 (Str.ofString "inputs_in") dg (nF 1 (Str.ofString "bench") (cF 3)) (aA (xP (af 6)) cR)) (xP (eC (.int 0)))) cR))))) ve))
noncomputable def rJ:FZ:=(jM (CW (s_ (dU 4) (aA (nF 1 (Str.ofString "unsure") (cF 3)) (aA (xP (af 4)) cR)))) (jk 5) nD)
noncomputable def sd:FZ:=(bN (dh 3 (xJ 1 cN (aA (xP (af 0)) cR))) (bN (jM (iP (dn (e2 eE (af 1) (eC (.int 1))))) (jk 4) rJ) (iR (xP (cP (aj (eC (.str (Str.ofString "bears"))) aI))))))
noncomputable def ub:List V3→aN→R3 V3:=mi oW sd
noncomputable def fD:List V3→aN→R3 V3:=n4 oW sd
theorem DO{P:Program}{w:World}{K:PySem.W.Frag}{mg:Str→Option Value}{base:Heap}{cl:Nat→Addr}(T:Tp K mg cl)(h:Def K mg (Str.ofString "bears") g_)(C_choices:Callee P w K mg base 5 (Str.ofString "choices") 2 (dU 4))(XK_Trial___init__:px P w K mg base cl 6 1 (Str.ofString "Trial") 1 cN)(XP_Trial_breaks_at:ft P w K mg base cl 6 1 (Str.ofString "breaks_at") 2 de)(XP_Bench_inputs_in:ft P w K mg base cl 2 0 (Str.ofString "inputs_in") 1 dg):aP P w K mg base cl 8 (Str.ofString "bears") 3 ub:=by
 obtain⟨f,fd,F,hm⟩:=h
 exact⟨f,fd,_,cv (k:=7) BP.2 u0.2 F mT (fun cdv A outer s H E hr=>(aw (bB mT.nd rfl (Or.inl rfl) (xn XK_Trial___init__ hr (by decide) rfl (ao (au (aa 0)) aT) (aq aW))) (aw (eR PassesOwn.never rfl (cQ (bG (aD gx (aa 1) ag) rfl T.z_range)) (bb mT.nd rfl (Or.inl rfl)) (aU (eR PassesOwn.never rfl (wZ (ui C_choices hr (by decide) rfl (ao (iI T.C_Trial T.N_Trial_unsure (bt 3)) (ao (au (aa 4)) aT)) (aq (aq aW)))) (bb mT.nd rfl (Or.inl rfl)) (aw (bB mT.nd rfl (Or.inl rfl) (m4 XP_Trial_breaks_at hr (by decide) (bt 3) (ao (au (aa 5)) (ao (au (aa 2)) aT)) (aq (aq aW)))) (aU (qY (m7 (bW (zy hr.units) (aa 6) ag (ck _))) (aU (dZ (nJ (ao (au aZ) (ao (au (aa 5)) (ao (w6 (m4 XP_Bench_inputs_in hr (by decide) (iI T.C_Trial T.N_Trial_bench (bt 3)) (ao (au (aa 6)) aT) (aq aW)) (au ag) (fun _ _=>rfl)) aT)))))) mm)))))) (aU (dZ (au (bE (ab aZ ah)))))))),hm,F.kp,F.binds fun _ _ _ _ _ _ us hl=>match us,hl with | [_,_,_],_=>rfl⟩
noncomputable abbrev cD:Stmt:=top 19
noncomputable abbrev jh:List Str:=[(Str.ofString "script"),(Str.ofString "k")]
noncomputable def qm:{b:List Stmt // ai cD=b}:=by
 have e:ai cD=ai cD:=rfl
 conv at e=>rhs;whnf
 exact⟨_,e⟩
noncomputable def ko:{b:Scope // ae cD=b}:=by
 have e:ae cD=ae cD:=rfl
 conv at e=>rhs;whnf
 exact⟨_,e⟩
theorem qJ:aY jh [(Str.ofString "script"),(Str.ofString "k")] ko.1:=⟨rfl,rfl,rfl,by decide+kernel,rfl,by decide+kernel,by decide+kernel⟩
noncomputable def je:FS:=(dj (mr (b2 zr (af 1) (aK dz (aj (af 0) aI))) (dQ (e2 cb (af 0) (af 1))) gU) (dQ (eC (.int 0))))
noncomputable def eA:List D→R D:=mj jh je
theorem qI{P:Program}{w:World}{K:PySem.W.Frag}{mg:Str→Option Value}{base:Heap}{cl:Nat→Addr}(T:Tp K mg cl)(h:Def K mg (Str.ofString "_law_cell_at") cD):Callee P w K mg base 1 (Str.ofString "_law_cell_at") 2 eA:=by
 obtain⟨f,fd,F,hm⟩:=h
 exact⟨f,fd,_,cA (k:=0) qm.2 ko.2 F qJ (fun cdv A outer s H E hr=>(aV (eF (bW G4 (aa 1) (aR er rfl T.z_len PySem.boot_len (ab (aa 0) ah)) (ck _)) (aO (bw (az (aa 0) (aa 1) (fun _ _=>rfl)))) du) (aO (bw ag)))),hm,F.kp,F.binds fun _ _ _ _ _ _ us hl=>match us,hl with | [_,_],_=>rfl⟩
noncomputable abbrev eg:Stmt:=top 20
noncomputable abbrev jK:List Str:=[(Str.ofString "cell")]
noncomputable def tO:{b:List Stmt // ai eg=b}:=by
 have e:ai eg=ai eg:=rfl
 conv at e=>rhs;whnf
 exact⟨_,e⟩
noncomputable def n8:{b:Scope // ae eg=b}:=by
 have e:ae eg=ae eg:=rfl
 conv at e=>rhs;whnf
 exact⟨_,e⟩
theorem vK:aY jK [(Str.ofString "cell")] n8.1:=⟨rfl,rfl,rfl,by decide+kernel,rfl,by decide+kernel,by decide+kernel⟩
noncomputable def lI:FZ:=(iR (lH (fJ (aj (aK cAbs (aj (af 0) aI)) (aj (e2 gQ (e2 ju (e2 eE (e2 gQ (af 0) (eC (.int 2147483647))) (eC (.int 1))) (eC (.int 742938285))) (eC (.int 2147483647))) aI)))))
noncomputable def eL:List V3→aN→R3 V3:=mi jK lI
noncomputable def vg:List V3→aN→R3 V3:=n4 jK lI
theorem vM{P:Program}{w:World}{K:PySem.W.Frag}{mg:Str→Option Value}{base:Heap}{cl:Nat→Addr}(T:Tp K mg cl)(h:Def K mg (Str.ofString "_law_reel") eg):aP P w K mg base cl 1 (Str.ofString "_law_reel") 1 eL:=by
 obtain⟨f,fd,F,hm⟩:=h
 exact⟨f,fd,_,cv (k:=0) tO.2 n8.2 F vK (fun cdv A outer s H E hr=>(aU (dZ (gy (cV (ab (aR Hd rfl T.z_abs PyProof.Rows.boot_abs (ab (aa 0) ah)) (ab (aD j4 (aD qj (aD gx (aD j4 (aa 0) ag) ag) ag) ag) ah))))))),hm,F.kp,F.binds fun _ _ _ _ _ _ us hl=>match us,hl with | [_],_=>rfl⟩
noncomputable abbrev ef:Stmt:=top 21
noncomputable abbrev jG:List Str:=[(Str.ofString "reel"),(Str.ofString "many"),(Str.ofString "found"),(Str.ofString "stir")]
noncomputable def uG:{b:List Stmt // ai ef=b}:=by
 have e:ai ef=ai ef:=rfl
 conv at e=>rhs;whnf
 exact⟨_,e⟩
noncomputable def oz:{b:Scope // ae ef=b}:=by
 have e:ae ef=ae ef:=rfl
 conv at e=>rhs;whnf
 exact⟨_,e⟩
theorem lS:aY jG [(Str.ofString "reel"),(Str.ofString "many")] oz.1:=⟨rfl,rfl,rfl,by decide+kernel,rfl,by decide+kernel,by decide+kernel⟩
noncomputable def lN:FZ:=(bN (Dw (bT (b2 BU (e2 cb (af 0) (eC (.int 0))) (e2 pY (eC (.int 10)) (eC (.int 18))))) (bN (dh 2 (xT (e2 gQ (e2 cb (af 0) (eC (.int 0))) (af 1)))) (bN (DD (cF 0) (xP (eC (.int 0))) (xT (e2 t4 (e2 cb (af 0) (eC (.int 0))) (af 1)))) (iR (xP (af 2))))) ve) (bN (DD (cF 0) (xP (eC (.int 1))) (xT (e2 gQ (e2 eE (e2 ju (e2 cb (af 0) (eC (.int 1))) (eC (.int 48271))) (eC (.int 11))) (eC (.int 2147483647))))) (bN (dh 3 (xT (e2 gQ (e2 ju (e2 cb (af 0) (eC (.int 1))) (e2 cb (af 0) (eC (.int 1)))) (eC (.int 2147483629))))) (iR (xP (e2 gQ (e2 t4 (e2 gQ (e2 ju (af 3) (eC (.int 69621))) (eC (.int 2147483587))) (eC (.int 8))) (af 1)))))))
noncomputable def om:List V3→aN→R3 V3:=mi jG lN
noncomputable def bq:List V3→aN→R3 V3:=n4 jG lN
theorem vQ{P:Program}{w:World}{K:PySem.W.Frag}{mg:Str→Option Value}{base:Heap}{cl:Nat→Addr}(T:Tp K mg cl)(h:Def K mg (Str.ofString "_law_take") ef):aP P w K mg base cl 1 (Str.ofString "_law_take") 2 om:=by
 obtain⟨f,fd,F,hm⟩:=h
 exact⟨f,fd,_,cv (k:=0) uG.2 oz.2 F lS (fun cdv A outer s H E hr=>(aw (qY (uV (bW IG (az (aa 0) ag (fun _ _=>rfl)) (aD DY ag ag) (ck _))) (aw (bB lS.nd rfl (Or.inl rfl) (d_ (aD j4 (az (aa 0) ag (fun _ _=>rfl)) (aa 1)))) (aw (zF (d_ (aD Bc (az (aa 0) ag (fun _ _=>rfl)) (aa 1))) (BO (PX.go (bt 0)) (PX.go (au ag)) set_list)) (aU (dZ (au (aa 2)))))) mm) (aw (zF (d_ (aD j4 (aD gx (aD qj (az (aa 0) ag (fun _ _=>rfl)) ag) ag) ag)) (BO (PX.go (bt 0)) (PX.go (au ag)) set_list)) (aw (bB lS.nd rfl (Or.inl rfl) (d_ (aD j4 (aD qj (az (aa 0) ag (fun _ _=>rfl)) (az (aa 0) ag (fun _ _=>rfl))) ag))) (aU (dZ (au (aD j4 (aD Bc (aD j4 (aD qj (aa 3) ag) ag) ag) (aa 1))))))))),hm,F.kp,F.binds fun _ _ _ _ _ _ us hl=>match us,hl with | [_,_],_=>rfl⟩
noncomputable abbrev dr:Stmt:=top 22
noncomputable abbrev i8:List Str:=[(Str.ofString "reel"),(Str.ofString "many"),(Str.ofString "letters"),(Str.ofString "words"),(Str.ofString "names"),(Str.ofString "k"),(Str.ofString "name"),(Str.ofString "j")]
noncomputable def sS:{b:List Stmt // ai dr=b}:=by
 have e:ai dr=ai dr:=rfl
 conv at e=>rhs;whnf
 exact⟨_,e⟩
noncomputable def mB:{b:Scope // ae dr=b}:=by
 have e:ae dr=ae dr:=rfl
 conv at e=>rhs;whnf
 exact⟨_,e⟩
theorem dw:aY i8 [(Str.ofString "reel"),(Str.ofString "many")] mB.1:=⟨rfl,rfl,rfl,by decide+kernel,rfl,by decide+kernel,by decide+kernel⟩
noncomputable def lC:FZ:=(dh 6 (x2 eE (xP (af 6)) (GB (xP (af 2)) (dc bq (aA (cF 0) (aA (xP (eC (.int 26))) cR))))))
noncomputable def gH:FZ:=(dh 6 (xP (e2 eE (wj (af 6) j7 (g6 (Ep (eC (.int 1))))) (e2 cb (af 2) (e2 gQ (e2 eE (y6 "str" ym (af 2) (aj (e2 cb (af 6) (Ep (eC (.int 1)))) aI)) (eC (.int 1))) (eC (.int 26)))))))
noncomputable def ja:FZ:=(bN (dh 6 (GB (xP (e2 eE (eNew (fJ (aj (eC (.str (Str.ofString ""))) (aj (eC (.str (Str.ofString ""))) (aj (eC (.str (Str.ofString "zz"))) (aj (eC (.str (Str.ofString "qrst"))) aI)))))) (af 3))) (dc bq (aA (cF 0) (aA (xP (eC (.int 13))) cR))))) (bN (jM (oy (x2 eE (xP (eC (.int 1))) (dc bq (aA (cF 0) (aA (xP (eC (.int 4))) cR))))) (jk 7) lC) (bN (wJ 1000 (bT (vE (b2 oM (af 6) (af 4)) (b2 oM (af 6) (af 3)))) gH) (lg 4 (xP (af 6))))))
noncomputable def kO:FZ:=(bN (dh 2 (xP (eC (.str (Str.ofString "abcdefghijklmnopqrstuvwxyz"))))) (bN (dh 3 (xP (eNew (fJ (aj (eC (.str (Str.ofString "in"))) (aj (eC (.str (Str.ofString "gate"))) (aj (eC (.str (Str.ofString "sure"))) (aj (eC (.str (Str.ofString "out"))) (aj (eC (.str (Str.ofString "not"))) (aj (eC (.str (Str.ofString "and"))) (aj (eC (.str (Str.ofString "or"))) (aj (eC (.str (Str.ofString "xor"))) (aj (eC (.str (Str.ofString "vote"))) aI))))))))))))) (bN (dh 4 (lH (fJ aI))) (bN (jM (iP (dn (af 1))) (jk 5) ja) (iR (cF 4))))))
noncomputable def mV:List V3→aN→R3 V3:=mi i8 kO
noncomputable def gd:List V3→aN→R3 V3:=n4 i8 kO
theorem tP{P:Program}{w:World}{K:PySem.W.Frag}{mg:Str→Option Value}{base:Heap}{cl:Nat→Addr}(T:Tp K mg cl)(h:Def K mg (Str.ofString "_law_names") dr)(XP_law_take:aP P w K mg base cl 1 (Str.ofString "_law_take") 2 bq):aP P w K mg base cl 2 (Str.ofString "_law_names") 2 mV:=by
 obtain⟨f,fd,F,hm⟩:=h
 exact⟨f,fd,_,cv (k:=1) sS.2 mB.2 F dw (fun cdv A outer s H E hr=>(aw (bB dw.nd rfl (Or.inl rfl) (au aZ)) (aw (bB dw.nd rfl (Or.inl rfl) (au (di (cV (ab aZ (ab aZ (ab aZ (ab aZ (ab aZ (ab aZ (ab aZ (ab aZ (ab aZ ah))))))))))))) (aw (bB dw.nd rfl (Or.inl rfl) (gy (cV ah))) (aw (eR PassesOwn.never rfl (cQ (bG (aa 1) rfl T.z_range)) (bb dw.nd rfl (Or.inl rfl)) (aw (bB dw.nd rfl (Or.inl rfl) (w6 (au (aD gx (di (cV (ab aZ (ab aZ (ab aZ (ab aZ ah)))))) (aa 3))) (bS XP_law_take hr (by decide) rfl (ao (bt 0) (ao (au ag) aT)) (aq (aq aW))) (fun _ _=>rfl))) (aw (eR PassesOwn.never rfl (jY (q9 gx (au ag) (bS XP_law_take hr (by decide) rfl (ao (bt 0) (ao (au ag) aT)) (aq (aq aW)))) rfl T.z_range) (bb dw.nd rfl (Or.inl rfl)) (aU (bB dw.nd rfl (Or.inl rfl) (q9 gx (au (aa 6)) (w6 (au (aa 2)) (bS XP_law_take hr (by decide) rfl (ao (bt 0) (ao (au ag) aT)) (aq (aq aW))) (fun _ _=>rfl)))))) (aw (zT 1000 PassesOwn.never (uV (sC (Du (bW zj (aa 6) (aa 4) (by with_unfolding_all rfl)) (Bm (bW zj (aa 6) (aa 3) (by with_unfolding_all rfl)))))) (aU (bB dw.nd rfl (Or.inl rfl) (au (aD gx (vO (aa 6) uf (mN (xY ag))) (az (aa 2) (aD j4 (aD gx (Bw (aa 2) (ab (az (aa 6) (xY ag) (fun _ _=>rfl)) ah)) ag) ag) (fun _ _=>rfl))))))) (aU (iO rfl (Or.inl rfl) (au (aa 6)))))))) (aU (dZ (bt 4)))))))),hm,F.kp,F.binds fun _ _ _ _ _ _ us hl=>match us,hl with | [_,_],_=>rfl⟩
noncomputable abbrev eh:Stmt:=top 23
noncomputable abbrev jU:List Str:=[(Str.ofString "reel"),(Str.ofString "kinds"),(Str.ofString "most_sure"),(Str.ofString "kind"),(Str.ofString "many"),(Str.ofString "wires"),(Str.ofString "k"),(Str.ofString "back"),(Str.ofString "wire")]
noncomputable def uS:{b:List Stmt // ai eh=b}:=by
 have e:ai eh=ai eh:=rfl
 conv at e=>rhs;whnf
 exact⟨_,e⟩
noncomputable def oA:{b:Scope // ae eh=b}:=by
 have e:ae eh=ae eh:=rfl
 conv at e=>rhs;whnf
 exact⟨_,e⟩
theorem eJ:aY jU [(Str.ofString "reel"),(Str.ofString "kinds"),(Str.ofString "most_sure")] oA.1:=⟨rfl,rfl,rfl,by decide+kernel,rfl,by decide+kernel,by decide+kernel⟩
noncomputable def mQ:FZ:=(bN (dh 7 (dc bq (aA (cF 0) (aA (xP (eC (.int 2))) cR)))) (bN (dh 8 (dc bq (aA (cF 0) (aA (xT (aK dz (aj (af 1) aI))) cR)))) (bN (Dw (bP (b2 jA (af 7) (eC (.int 1)))) (dh 8 (xT (e2 jr (e2 jr (aK dz (aj (af 1) aI)) (eC (.int 1))) (e2 gQ (af 8) (aK rL (aj (aK dz (aj (af 1) aI)) (aj (eC (.int 4)) aI))))))) ve) (lg 5 (xP (af 8))))))
noncomputable def lP:FZ:=(bN (dh 3 (GB (xP (eNew (fJ (aj (eC (.str (Str.ofString "not"))) (aj (eC (.str (Str.ofString "and"))) (aj (eC (.str (Str.ofString "or"))) (aj (eC (.str (Str.ofString "xor"))) (aj (eC (.str (Str.ofString "vote"))) (aj (eC (.str (Str.ofString "xor"))) (aj (eC (.str (Str.ofString "and"))) aI)))))))))) (dc bq (aA (cF 0) (aA (xP (eC (.int 7))) cR))))) (bN (dh 4 (xP (EA [((Sum.inr (Str.ofString "not"):Key),V.int 1),((Sum.inr (Str.ofString "vote"):Key),V.int 3)] (af 3) (eC (.int 2))))) (bN (dh 5 (lH (fJ aI))) (bN (jM (iP (dn (af 4))) (jk 6) mQ) (iR (uL (aA (xP (af 3)) (aA (xT (aK fg (aj (af 5) aI))) (aA (x2 zr (dc bq (aA (cF 0) (aA (xP (eC (.int 4))) cR))) (xP (af 2))) cR)))))))))
noncomputable def n0:List V3→aN→R3 V3:=mi jU lP
noncomputable def gT:List V3→aN→R3 V3:=n4 jU lP
theorem wu{P:Program}{w:World}{K:PySem.W.Frag}{mg:Str→Option Value}{base:Heap}{cl:Nat→Addr}(T:Tp K mg cl)(h:Def K mg (Str.ofString "_law_gate") eh)(XP_law_take:aP P w K mg base cl 1 (Str.ofString "_law_take") 2 bq):aP P w K mg base cl 2 (Str.ofString "_law_gate") 3 n0:=by
 obtain⟨f,fd,F,hm⟩:=h
 exact⟨f,fd,_,cv (k:=1) uS.2 oA.2 F eJ (fun cdv A outer s H E hr=>(aw (bB eJ.nd rfl (Or.inl rfl) (w6 (au (di (cV (ab aZ (ab aZ (ab aZ (ab aZ (ab aZ (ab aZ (ab aZ ah)))))))))) (bS XP_law_take hr (by decide) rfl (ao (bt 0) (ao (au ag) aT)) (aq (aq aW))) (fun _ _=>rfl))) (aw (bB eJ.nd rfl (Or.inl rfl) (au (CN (HR hr) (mv pF pV (mv pF pV xx)) rfl rfl (by simp) (fun _ _ _ h=>h) (by decide) (aa 3) ag ⟨rfl,rfl,rfl,rfl⟩ (Dj (mv pF pV (mv pF pV xx)) rfl rfl (by simp) (by decide))))) (aw (bB eJ.nd rfl (Or.inl rfl) (gy (cV ah))) (aw (eR PassesOwn.never rfl (cQ (bG (aa 4) rfl T.z_range)) (bb eJ.nd rfl (Or.inl rfl)) (aw (bB eJ.nd rfl (Or.inl rfl) (bS XP_law_take hr (by decide) rfl (ao (bt 0) (ao (au ag) aT)) (aq (aq aW)))) (aw (bB eJ.nd rfl (Or.inl rfl) (bS XP_law_take hr (by decide) rfl (ao (bt 0) (ao (d_ (aR er rfl T.z_len PySem.boot_len (ab (aa 1) ah))) aT)) (aq (aq aW)))) (aw (qY (m7 (bW (jS hr.units) (aa 7) ag (ck _))) (aU (bB eJ.nd rfl (Or.inl rfl) (d_ (aD ox (aD ox (aR er rfl T.z_len PySem.boot_len (ab (aa 1) ah)) ag) (aD j4 (aa 8) (aR (zS rfl) rfl T.z_min PyProof.Rows.boot_min (ab (aR er rfl T.z_len PySem.boot_len (ab (aa 1) ah)) (ab ag ah)))))))) mm) (aU (iO rfl (Or.inl rfl) (au (aa 8)))))))) (aU (dZ (nJ (ao (au (aa 3)) (ao (d_ (eN o_ rfl T.z_tuple PyProof.Rows.boot_tuple (ab (aa 5) ah))) (ao (wH G4 (bS XP_law_take hr (by decide) rfl (ao (bt 0) (ao (au ag) aT)) (aq (aq aW))) (au (aa 2)) (ck _)) aT))))))))))),hm,F.kp,F.binds fun _ _ _ _ _ _ us hl=>match us,hl with | [_,_,_],_=>rfl⟩
noncomputable abbrev cg:Stmt:=top 27
noncomputable abbrev ku:List Str:=[(Str.ofString "kind"),(Str.ofString "some")]
noncomputable def oU:{b:List Stmt // ai cg=b}:=by
 have e:ai cg=ai cg:=rfl
 conv at e=>rhs;whnf
 exact⟨_,e⟩
noncomputable def j6:{b:Scope // ae cg=b}:=by
 have e:ae cg=ae cg:=rfl
 conv at e=>rhs;whnf
 exact⟨_,e⟩
theorem pX:aY ku [(Str.ofString "kind"),(Str.ofString "some")] j6.1:=⟨rfl,rfl,rfl,by decide+kernel,rfl,by decide+kernel,by decide+kernel⟩
noncomputable def qp:FS:=(dj (mr (b2 jA (af 0) (eC (.str (Str.ofString "not")))) (dQ (e2 jr (eC (.int 1)) (e2 cb (af 1) (eC (.int 0))))) gU) (dj (mr (b2 jA (af 0) (eC (.str (Str.ofString "and")))) (dQ (aK rL (aj (af 1) aI))) gU) (dj (mr (b2 jA (af 0) (eC (.str (Str.ofString "or")))) (dQ (aK Af (aj (af 1) aI))) gU) (dj (mr (b2 jA (af 0) (eC (.str (Str.ofString "xor")))) (dQ (e2 gQ (aK ug (aj (af 1) aI)) (eC (.int 2)))) gU) (dQ (aK pJ (aj (e2 zE (aK ug (aj (af 1) aI)) (eC (.int 1))) aI)))))))
noncomputable def eP:List D→R D:=mj ku qp
theorem pH{P:Program}{w:World}{K:PySem.W.Frag}{mg:Str→Option Value}{base:Heap}{cl:Nat→Addr}(T:Tp K mg cl)(h:Def K mg (Str.ofString "_law_gate_bit") cg):Callee P w K mg base 1 (Str.ofString "_law_gate_bit") 2 eP:=by
 obtain⟨f,fd,F,hm⟩:=h
 exact⟨f,fd,_,cA (k:=0) oU.2 j6.2 F pX (fun cdv A outer s H E hr=>(aV (eF (bW (jS hr.units) (aa 0) aZ (ck _)) (aO (bw (aD ox ag (az (aa 1) ag (fun _ _=>rfl))))) du) (aV (eF (bW (jS hr.units) (aa 0) aZ (ck _)) (aO (bw (aR (zS rfl) rfl T.z_min PyProof.Rows.boot_min (ab (aa 1) ah)))) du) (aV (eF (bW (jS hr.units) (aa 0) aZ (ck _)) (aO (bw (aR (ER rfl) rfl T.z_max PyProof.Rows.boot_max (ab (aa 1) ah)))) du) (aV (eF (bW (jS hr.units) (aa 0) aZ (ck _)) (aO (bw (aD j4 (aR (wQ rfl) rfl T.z_sum PyProof.Rows.boot_sum (ab (aa 1) ah)) ag))) du) (aO (bw (eN sJ rfl T.z_int PyProof.Rows.boot_int (ab (o3 HN (aR (wQ rfl) rfl T.z_sum PyProof.Rows.boot_sum (ab (aa 1) ah)) ag (ck _)) ah))))))))),hm,F.kp,F.binds fun _ _ _ _ _ _ us hl=>match us,hl with | [_,_],_=>rfl⟩
noncomputable abbrev dt:Stmt:=top 28
noncomputable abbrev kr:List Str:=[(Str.ofString "net"),(Str.ofString "bits"),(Str.ofString "turned"),(Str.ofString "bad"),(Str.ofString "wires"),(Str.ofString "k"),(Str.ofString "j"),(Str.ofString "place"),(Str.ofString "kind"),(Str.ofString "own"),(Str.ofString "sure"),(Str.ofString "bit")]
noncomputable def sV:{b:List Stmt // ai dt=b}:=by
 have e:ai dt=ai dt:=rfl
 conv at e=>rhs;whnf
 exact⟨_,e⟩
noncomputable def jZ:{b:Scope // ae dt=b}:=by
 have e:ae dt=ae dt:=rfl
 conv at e=>rhs;whnf
 exact⟨_,e⟩
theorem dH:aY kr [(Str.ofString "net"),(Str.ofString "bits"),(Str.ofString "turned"),(Str.ofString "bad")] jZ.1:=⟨rfl,rfl,rfl,by decide+kernel,rfl,by decide+kernel,by decide+kernel⟩
noncomputable def gM:FS:=(l0 4 (e2 gQ (e2 eE (e2 cb (af 1) (af 5)) (aK pJ (aj (iV (e2 oM (aK dz (aj (af 4) aI)) (af 3))) aI))) (eC (.int 2))))
noncomputable def gK:FS:=(mE (dn (e2 cb (e2 cb (e2 cb (af 0) (eC (.int 0))) (af 5)) (eC (.int 1)))) (aJ 6) gM)
noncomputable def gL:FS:=(dj (oI (e2 cb (e2 cb (af 0) (eC (.int 1))) (af 7)) (fS 3 (b_ (aJ 8) (b_ (aJ 9) (b_ (aJ 10) fU))))) (dj (il 11 (iV (aK eP (aj (af 8) (aj (eNew (fu (et (af 9)) (aJ 0) jH (e2 cb (af 1) (af 0)) [(Str.ofString "one")] [4])) aI))))) (l0 4 (e2 gQ (e2 eE (af 11) (aK pJ (aj (e2 oM (af 7) (af 2)) aI))) (eC (.int 2))))))
noncomputable def oi:FS:=(dj (lG 4 (fJ aI)) (dj (mE (dn (aK dz (aj (e2 cb (af 0) (eC (.int 0))) aI))) (aJ 5) gK) (dj (mE (dn (aK dz (aj (e2 cb (af 0) (eC (.int 1))) aI))) (aJ 7) gL) (nk 4 (dQ (af 4))))))
noncomputable def fO:List D→R D:=mj kr oi
theorem tQ{P:Program}{w:World}{K:PySem.W.Frag}{mg:Str→Option Value}{base:Heap}{cl:Nat→Addr}(T:Tp K mg cl)(h:Def K mg (Str.ofString "_law_wires") dt)(C_law_gate_bit:Callee P w K mg base 1 (Str.ofString "_law_gate_bit") 2 eP):Callee P w K mg base 2 (Str.ofString "_law_wires") 4 fO:=by
 obtain⟨f,fd,F,hm⟩:=h
 exact⟨f,fd,_,cA (k:=1) sV.2 jZ.2 F dH (fun cdv A outer s H E hr=>(aV (uk dH.nd rfl (Or.inr rfl) (cV ah)) (aV (fw PassesOwn.never rfl (bG (aR er rfl T.z_len PySem.boot_len (ab (az (aa 0) ag (fun _ _=>rfl)) ah)) rfl T.z_range) (aS dH.nd rfl (Or.inl rfl)) (aO (fw PassesOwn.never rfl (bG (az (az (az (aa 0) ag (fun _ _=>rfl)) (aa 5) (fun _ _=>rfl)) ag (fun _ _=>rfl)) rfl T.z_range) (aS dH.nd rfl (Or.inl rfl)) (aO (pq rfl (Or.inr (Or.inl rfl)) (aD j4 (aD gx (az (aa 1) (aa 5) (fun _ _=>rfl)) (eN sJ rfl T.z_int PyProof.Rows.boot_int (ab (t5 (o3 zj (aR er rfl T.z_len PySem.boot_len (ab (aa 4) ah)) (aa 3) (by with_unfolding_all rfl))) ah))) ag)))))) (aV (fw PassesOwn.never rfl (bG (aR er rfl T.z_len PySem.boot_len (ab (az (aa 0) ag (fun _ _=>rfl)) ah)) rfl T.z_range) (aS dH.nd rfl (Or.inl rfl)) (aV (Am (az (az (aa 0) ag (fun _ _=>rfl)) (aa 7) (fun _ _=>rfl)) (jz rfl (cy (aS dH.nd rfl (Or.inl rfl)) (cy (aS dH.nd rfl (Or.inl rfl)) (cy (aS dH.nd rfl (Or.inl rfl)) ic))))) (aV (fm dH.nd rfl (Or.inl rfl) (t5 (bU C_law_gate_bit hr (by decide) rfl (ab (aa 8) (ab (di (dR rfl (cf.of (own:=[(Str.ofString "one")]) (kp:=[4]) (kn:=[(Str.ofString "wires")]) (sc:=jZ.1) (N:=kr) rfl rfl (by decide+kernel)) (cx (aa 9)) (fun _ _ _=>(aS (show List.Nodup [(Str.ofString "one"),(Str.ofString "wires")] from by decide+kernel) rfl (Or.inl rfl))) (fun _ _ _=>dq) (fun _ _ _=>(az (aa 1) (aa 0) (fun _ _=>rfl))))) ah)) (aL (aL cw))))) (aO (pq rfl (Or.inr (Or.inl rfl)) (aD j4 (aD gx (aa 11) (eN sJ rfl T.z_int PyProof.Rows.boot_int (ab (o3 zj (aa 7) (aa 2) (by with_unfolding_all rfl)) ah))) ag)))))) (t7 4 (aO (bw (aa 4)))))))),hm,F.kp,F.binds fun _ _ _ _ _ _ us hl=>match us,hl with | [_,_,_,_],_=>rfl⟩
noncomputable abbrev ee:Stmt:=top 29
noncomputable abbrev qw:List Str:=[(Str.ofString "some")]
noncomputable def uT:{b:List Stmt // ai ee=b}:=by
 have e:ai ee=ai ee:=rfl
 conv at e=>rhs;whnf
 exact⟨_,e⟩
noncomputable def n6:{b:Scope // ae ee=b}:=by
 have e:ae ee=ae ee:=rfl
 conv at e=>rhs;whnf
 exact⟨_,e⟩
theorem vP:aY qw [(Str.ofString "some")] n6.1:=⟨rfl,rfl,rfl,by decide+kernel,rfl,by decide+kernel,by decide+kernel⟩
noncomputable def wU:FS:=(dj (mr (mK (b2 jA (aK dz (aj (af 0) aI)) (eC (.int 2))) (b2 tF (e2 cb (af 0) (eC (.int 0))) (e2 cb (af 0) (eC (.int 1))))) (dQ (eC .dk)) gU) (dj (mr (b2 jA (aK dz (aj (af 0) aI)) (eC (.int 3))) (dQ (aK pJ (aj (e2 zE (aK ug (aj (af 0) aI)) (eC (.int 1))) aI))) gU) (dQ (e2 cb (af 0) (eC (.int 0))))))
noncomputable def iJ:List D→R D:=mj qw wU
theorem wR{P:Program}{w:World}{K:PySem.W.Frag}{mg:Str→Option Value}{base:Heap}{cl:Nat→Addr}(T:Tp K mg cl)(h:Def K mg (Str.ofString "_law_read") ee):Callee P w K mg base 1 (Str.ofString "_law_read") 1 iJ:=by
 obtain⟨f,fd,F,hm⟩:=h
 exact⟨f,fd,_,cA (k:=0) uT.2 n6.2 F vP (fun cdv A outer s H E hr=>(aV (eF (sC (uZ (bW (jS hr.units) (aR er rfl T.z_len PySem.boot_len (ab (aa 0) ah)) ag (ck _)) (rg (bW (zy hr.units) (az (aa 0) ag (fun _ _=>rfl)) (az (aa 0) ag (fun _ _=>rfl)) (ck _))))) (aO (bw DU)) du) (aV (eF (bW (jS hr.units) (aR er rfl T.z_len PySem.boot_len (ab (aa 0) ah)) ag (ck _)) (aO (bw (eN sJ rfl T.z_int PyProof.Rows.boot_int (ab (o3 HN (aR (wQ rfl) rfl T.z_sum PyProof.Rows.boot_sum (ab (aa 0) ah)) ag (ck _)) ah)))) du) (aO (bw (az (aa 0) ag (fun _ _=>rfl))))))),hm,F.kp,F.binds fun _ _ _ _ _ _ us hl=>match us,hl with | [_],_=>rfl⟩
noncomputable abbrev dG:Stmt:=top 30
noncomputable abbrev iU:List Str:=[(Str.ofString "net"),(Str.ofString "bits"),(Str.ofString "turned"),(Str.ofString "bad"),(Str.ofString "wires")]
noncomputable def rY:{b:List Stmt // ai dG=b}:=by
 have e:ai dG=ai dG:=rfl
 conv at e=>rhs;whnf
 exact⟨_,e⟩
noncomputable def jP:{b:Scope // ae dG=b}:=by
 have e:ae dG=ae dG:=rfl
 conv at e=>rhs;whnf
 exact⟨_,e⟩
theorem nV:aY iU [(Str.ofString "net"),(Str.ofString "bits"),(Str.ofString "turned"),(Str.ofString "bad")] jP.1:=⟨rfl,rfl,rfl,by decide+kernel,rfl,by decide+kernel,by decide+kernel⟩
noncomputable def og:FS:=(dj (il 4 (aK fO (aj (af 0) (aj (af 1) (aj (af 2) (aj (af 3) aI)))))) (dQ (eNew (fu (et (e2 cb (af 0) (eC (.int 2)))) (fS 2 (b_ (aJ 0) (b_ (aJ 1) fU))) jH (aK iJ (aj (eNew (fu (et (af 1)) (aJ 0) jH (e2 cb (af 1) (af 0)) [(Str.ofString "one")] [2])) aI)) [(Str.ofString "name"),(Str.ofString "own")] [4]))))
noncomputable def c6:List D→R D:=mj iU og
theorem vj{P:Program}{w:World}{K:PySem.W.Frag}{mg:Str→Option Value}{base:Heap}{cl:Nat→Addr}(T:Tp K mg cl)(h:Def K mg (Str.ofString "_law_reads") dG)(C_law_wires:Callee P w K mg base 2 (Str.ofString "_law_wires") 4 fO)(C_law_read:Callee P w K mg base 1 (Str.ofString "_law_read") 1 iJ):Callee P w K mg base 3 (Str.ofString "_law_reads") 4 c6:=by
 obtain⟨f,fd,F,hm⟩:=h
 exact⟨f,fd,_,cA (k:=2) rY.2 jP.2 F nV (fun cdv A outer s H E hr=>(aV (fm nV.nd rfl (Or.inr rfl) (bU C_law_wires hr (by decide) rfl (ab (aa 0) (ab (aa 1) (ab (aa 2) (ab (aa 3) ah)))) (aL (aL (aL (aL cw)))))) (aO (bw (di (dR rfl (cf.of (own:=[(Str.ofString "name"),(Str.ofString "own")]) (kp:=[4]) (kn:=[(Str.ofString "wires")]) (sc:=jP.1) (N:=iU) rfl rfl (by decide+kernel)) (cx (az (aa 0) ag (fun _ _=>rfl))) (fun _ _ _=>(jz rfl (cy (aS (show List.Nodup [(Str.ofString "name"),(Str.ofString "own"),(Str.ofString "wires")] from by decide+kernel) rfl (Or.inl rfl)) (cy (aS (show List.Nodup [(Str.ofString "name"),(Str.ofString "own"),(Str.ofString "wires")] from by decide+kernel) rfl (Or.inl rfl)) ic)))) (fun _ _ _=>dq) (fun _ _ _=>(bU C_law_read hr (by decide) rfl (ab (di (dR rfl (cf.of (own:=[(Str.ofString "one")]) (kp:=[2]) (kn:=[(Str.ofString "wires")]) rfl rfl rfl) (cx (aa 1)) (fun _ _ _=>(aS (show List.Nodup [(Str.ofString "one"),(Str.ofString "wires")] from by decide+kernel) rfl (Or.inl rfl))) (fun _ _ _=>dq) (fun _ _ _=>(az (aa 1) (aa 0) (fun _ _=>rfl))))) ah) (aL cw))))))))),hm,F.kp,F.binds fun _ _ _ _ _ _ us hl=>match us,hl with | [_,_,_,_],_=>rfl⟩
noncomputable abbrev cU:Stmt:=top 31
noncomputable abbrev jT:List Str:=[(Str.ofString "many"),(Str.ofString "found"),(Str.ofString "k"),(Str.ofString "wider"),(Str.ofString "bits")]
noncomputable def qA:{b:List Stmt // ai cU=b}:=by
 have e:ai cU=ai cU:=rfl
 conv at e=>rhs;whnf
 exact⟨_,e⟩
noncomputable def lj:{b:Scope // ae cU=b}:=by
 have e:ae cU=ae cU:=rfl
 conv at e=>rhs;whnf
 exact⟨_,e⟩
theorem ei:aY jT [(Str.ofString "many")] lj.1:=⟨rfl,rfl,rfl,by decide+kernel,rfl,by decide+kernel,by decide+kernel⟩
noncomputable def ij:FS:=(il 3 (e2 jy (af 3) (eNew (fJ (aj (e2 jy (af 4) (cP (aj (eC (.int 0)) aI))) (aj (e2 jy (af 4) (cP (aj (eC (.int 1)) aI))) aI))))))
noncomputable def iC:FS:=(dj (il 3 (eNew (fJ aI))) (dj (mE (et (af 1)) (aJ 4) ij) (il 1 (af 3))))
noncomputable def nh:FS:=(dj (il 1 (eNew (fJ (aj (cP aI) aI)))) (dj (mE (dn (af 0)) (aJ 2) iC) (dQ (af 1))))
noncomputable def eY:List D→R D:=mj jT nh
theorem sj{P:Program}{w:World}{K:PySem.W.Frag}{mg:Str→Option Value}{base:Heap}{cl:Nat→Addr}(T:Tp K mg cl)(h:Def K mg (Str.ofString "_law_inputs") cU):Callee P w K mg base 1 (Str.ofString "_law_inputs") 1 eY:=by
 obtain⟨f,fd,F,hm⟩:=h
 exact⟨f,fd,_,cA (k:=0) qA.2 lj.2 F ei (fun cdv A outer s H E hr=>(aV (fm ei.nd rfl (Or.inl rfl) (di (cV (ab (bE ah) ah)))) (aV (fw PassesOwn.never rfl (bG (aa 0) rfl T.z_range) (aS ei.nd rfl (Or.inl rfl)) (aV (fm ei.nd rfl (Or.inl rfl) (di (cV ah))) (aV (fw PassesOwn.never rfl (cx (aa 1)) (aS ei.nd rfl (Or.inl rfl)) (aO (fm ei.nd rfl (Or.inl rfl) (aD lT (aa 3) (di (cV (ab (aD lT (aa 4) (bE (ab ag ah))) (ab (aD lT (aa 4) (bE (ab ag ah))) ah)))))))) (aO (fm ei.nd rfl (Or.inl rfl) (aa 3)))))) (aO (bw (aa 1)))))),hm,F.kp,F.binds fun _ _ _ _ _ _ us hl=>match us,hl with | [_],_=>rfl⟩
noncomputable abbrev bK:Stmt:=top 32
noncomputable abbrev bM:List Str:=[(Str.ofString "net"),(Str.ofString "many"),(Str.ofString "there"),(Str.ofString "ahead"),(Str.ofString "gates"),(Str.ofString "kind"),(Str.ofString "wires"),(Str.ofString "sure"),(Str.ofString "k"),(Str.ofString "outs")]
noncomputable def m8:{b:List Stmt // ai bK=b}:=by
 have e:ai bK=ai bK:=rfl
 conv at e=>rhs;whnf
 exact⟨_,e⟩
noncomputable def cj:{b:Scope // ae bK=b}:=by
 have e:ae bK=ae bK:=rfl
 conv at e=>rhs;whnf
 exact⟨_,e⟩
theorem bL:aY bM [(Str.ofString "net"),(Str.ofString "many")] cj.1:=⟨rfl,rfl,rfl,by decide+kernel,rfl,by decide+kernel,by decide+kernel⟩
noncomputable def iq:FZ:=(lg 4 (xT (cP (aj (af 5) (aj (aK fg (aj (eNew (fu (et (af 6)) (aJ 0) jH (e2 cb (e2 cb (af 1) (af 0)) (af 2)) [(Str.ofString "wire")] [2,8])) aI)) (aj (af 7) aI))))))
noncomputable def fK:FZ:=(bN (lg 2 (kz (iP (dn (af 1))) (jk 0) wM (xT (e2 eE (e2 eE (af 1) (aK dz (aj (af 2) aI))) (af 0))) [(Str.ofString "k")] [3,4])) (jM (iP (dn (af 1))) (jk 8) iq))
noncomputable def gC:FZ:=(bN (dh 2 (lH (fu (dn (aK dz (aj (e2 cb (af 0) (eC (.int 0))) aI))) (aJ 0) jH (eNew (fu (dn (af 1)) (aJ 0) jH (e2 eE (e2 ju (af 2) (af 1)) (af 0)) [(Str.ofString "k")] [0,1])) [(Str.ofString "wire")] [1]))) (bN (dh 3 (xP (e2 ju (af 1) (aK dz (aj (e2 cb (af 0) (eC (.int 0))) aI))))) (bN (dh 4 (lH (fJ aI))) (bN (jM (iP (et (e2 cb (af 0) (eC (.int 1))))) (u7 3 (oF (jk 5) (oF (jk 6) (oF (jk 7) vp)))) fK) (bN (dh 9 (kz (iP (et (e2 cb (af 0) (eC (.int 2))))) (u7 2 (oF (jk 0) (oF (jk 1) vp))) wM (xT (cP (aj (af 0) (aj (aK fg (aj (e2 cb (af 2) (e2 cb (af 1) (eC (.int 0)))) aI)) aI)))) [(Str.ofString "name"),(Str.ofString "wires")] [2])) (iR (uL (aA (lH (fu (et (e2 cb (af 0) (eC (.int 0)))) (fS 2 (b_ (aJ 0) (b_ (aJ 1) fU))) jH (cP (aj (af 0) (aj (af 2) aI))) [(Str.ofString "name"),(Str.ofString "width")] [1])) (aA (cF 4) (aA (cF 9) cR))))))))))
noncomputable def iT:List V3→aN→R3 V3:=mi bM gC
noncomputable def dF:List V3→aN→R3 V3:=n4 bM gC
theorem nB{P:Program}{w:World}{K:PySem.W.Frag}{mg:Str→Option Value}{base:Heap}{cl:Nat→Addr}(T:Tp K mg cl)(h:Def K mg (Str.ofString "_law_many_times") bK):aP P w K mg base cl 1 (Str.ofString "_law_many_times") 2 iT:=by
 obtain⟨f,fd,F,hm⟩:=h
 exact⟨f,fd,_,cv (k:=0) m8.2 cj.2 F bL (fun cdv A outer s H E hr=>(aw (bB bL.nd rfl (Or.inr rfl) (gy (dR rfl (cf.of (own:=[(Str.ofString "wire")]) (kp:=[1]) (kn:=[(Str.ofString "many")]) (sc:=cj.1) (N:=bM) rfl rfl (by decide+kernel)) (bG (aR er rfl T.z_len PySem.boot_len (ab (az (aa 0) ag (fun _ _=>rfl)) ah)) rfl T.z_range) (fun _ _ _=>(aS (show List.Nodup [(Str.ofString "wire"),(Str.ofString "many")] from by decide+kernel) rfl (Or.inr rfl))) (fun _ _ _=>dq) (fun _ _ _=>(di (dR rfl (cf.of (own:=[(Str.ofString "k")]) (kp:=[0,1]) (kn:=[(Str.ofString "wire"),(Str.ofString "many")]) rfl rfl rfl) (bG (aa 1) rfl T.z_range) (fun _ _ _=>(aS (show List.Nodup [(Str.ofString "k"),(Str.ofString "wire"),(Str.ofString "many")] from by decide+kernel) rfl (Or.inl rfl))) (fun _ _ _=>dq) (fun _ _ _=>(aD gx (aD qj (aa 2) (aa 1)) (aa 0))))))))) (aw (bB bL.nd rfl (Or.inr rfl) (au (aD qj (aa 1) (aR er rfl T.z_len PySem.boot_len (ab (az (aa 0) ag (fun _ _=>rfl)) ah))))) (aw (bB bL.nd rfl (Or.inr rfl) (gy (cV ah))) (aw (eR PassesOwn.never rfl (cQ (cx (az (aa 0) ag (fun _ _=>rfl)))) (jJ rfl (cu (bb bL.nd rfl (Or.inl rfl)) (cu (bb bL.nd rfl (Or.inl rfl)) (cu (bb bL.nd rfl (Or.inl rfl)) iz)))) (aw (iO rfl (Or.inr (Or.inl rfl)) (tq rfl (cf.of (own:=[(Str.ofString "k")]) (kp:=[3,4]) (kn:=[(Str.ofString "ahead"),(Str.ofString "gates")]) (sc:=cj.1) (N:=bM) rfl rfl (by decide+kernel)) (cQ (bG (aa 1) rfl T.z_range)) (fun _ _ _=>(bb (show List.Nodup [(Str.ofString "k"),(Str.ofString "ahead"),(Str.ofString "gates")] from by decide+kernel) rfl (Or.inl rfl))) (fun _ _ _=>jC) (fun _ _ _=>(d_ (aD gx (aD gx (aa 1) (aR er rfl T.z_len PySem.boot_len (ab (aa 2) ah))) (aa 0)))))) (aU (eR PassesOwn.never rfl (cQ (bG (aa 1) rfl T.z_range)) (bb bL.nd rfl (Or.inr rfl)) (aU (iO rfl (Or.inr (Or.inl rfl)) (d_ (bE (ab (aa 5) (ab (eN o_ rfl T.z_tuple PyProof.Rows.boot_tuple (ab (di (dR rfl (cf.of (own:=[(Str.ofString "wire")]) (kp:=[2,8]) (kn:=[(Str.ofString "there"),(Str.ofString "k")]) (sc:=cj.1) (N:=bM) rfl rfl (by decide+kernel)) (cx (aa 6)) (fun _ _ _=>(aS (show List.Nodup [(Str.ofString "wire"),(Str.ofString "there"),(Str.ofString "k")] from by decide+kernel) rfl (Or.inl rfl))) (fun _ _ _=>dq) (fun _ _ _=>(az (az (aa 1) (aa 0) (fun _ _=>rfl)) (aa 2) (fun _ _=>rfl))))) ah)) (ab (aa 7) ah))))))))))) (aw (mf rfl bL.nd rfl rfl (cf.of (own:=[(Str.ofString "name"),(Str.ofString "wires")]) (kp:=[2]) (kn:=[(Str.ofString "there")]) (sc:=cj.1) (N:=bM) rfl rfl (by decide+kernel)) (cQ (cx (az (aa 0) ag (fun _ _=>rfl)))) (fun _ _ _=>(jJ rfl (cu (bb (show List.Nodup [(Str.ofString "name"),(Str.ofString "wires"),(Str.ofString "there")] from by decide+kernel) rfl (Or.inl rfl)) (cu (bb (show List.Nodup [(Str.ofString "name"),(Str.ofString "wires"),(Str.ofString "there")] from by decide+kernel) rfl (Or.inl rfl)) iz)))) (fun _ _ _=>jC) (fun _ _ _=>(d_ (bE (ab (aa 0) (ab (eN o_ rfl T.z_tuple PyProof.Rows.boot_tuple (ab (az (aa 2) (az (aa 1) ag (fun _ _=>rfl)) (fun _ _=>rfl)) ah)) ah)))))) (aU (dZ (nJ (ao (gy (dR rfl (cf.of (own:=[(Str.ofString "name"),(Str.ofString "width")]) (kp:=[1]) (kn:=[(Str.ofString "many")]) (sc:=cj.1) (N:=bM) rfl rfl (by decide+kernel)) (cx (az (aa 0) ag (fun _ _=>rfl))) (fun _ _ _=>(jz rfl (cy (aS (show List.Nodup [(Str.ofString "name"),(Str.ofString "width"),(Str.ofString "many")] from by decide+kernel) rfl (Or.inl rfl)) (cy (aS (show List.Nodup [(Str.ofString "name"),(Str.ofString "width"),(Str.ofString "many")] from by decide+kernel) rfl (Or.inl rfl)) ic)))) (fun _ _ _=>dq) (fun _ _ _=>(bE (ab (aa 0) (ab (aa 2) ah)))))) (ao (bt 4) (ao (bt 9) aT)))))))))))),hm,F.kp,F.binds fun _ _ _ _ _ _ us hl=>match us,hl with | [_,_],_=>rfl⟩
noncomputable abbrev dI:Stmt:=top 33
noncomputable abbrev gP:List Str:=[(Str.ofString "reel"),(Str.ofString "cells"),(Str.ofString "names"),(Str.ofString "ins"),(Str.ofString "kinds"),(Str.ofString "gates"),(Str.ofString "cell"),(Str.ofString "outs"),(Str.ofString "k")]
noncomputable def rZ:{b:List Stmt // ai dI=b}:=by
 have e:ai dI=ai dI:=rfl
 conv at e=>rhs;whnf
 exact⟨_,e⟩
noncomputable def jL:{b:Scope // ae dI=b}:=by
 have e:ae dI=ae dI:=rfl
 conv at e=>rhs;whnf
 exact⟨_,e⟩
theorem d7:aY gP [(Str.ofString "reel"),(Str.ofString "cells")] jL.1:=⟨rfl,rfl,rfl,by decide+kernel,rfl,by decide+kernel,by decide+kernel⟩
noncomputable def jg:FZ:=(bN (lg 5 (dc gT (aA (dc eL (aA (xP (af 6)) cR)) (aA (cF 4) (aA (xP (eC (.int 1))) cR))))) (lg 4 (xT (aK dz (aj (af 4) aI)))))
noncomputable def jd:FZ:=(lg 7 (uL (aA (xP (e2 cb (af 2) (af 8))) (aA (uL (aA (x2 jr (xT (e2 jr (aK dz (aj (af 4) aI)) (eC (.int 1)))) (dc bq (aA (cF 0) (aA (xT (aK dz (aj (af 4) aI))) cR)))) cR)) cR))))
noncomputable def kF:FZ:=(bN (dh 2 (dc gd (aA (cF 0) (aA (xP (eC (.int 8))) cR)))) (bN (dh 3 (kz (oy (x2 eE (xP (eC (.int 1))) (dc bq (aA (cF 0) (aA (xP (eC (.int 4))) cR))))) (jk 0) wM (xP (cP (aj (e2 cb (af 1) (e2 jr (eC (.int 7)) (af 0))) (aj (eC (.int 1)) aI)))) [(Str.ofString "k")] [2])) (bN (dh 4 (lH (Gp (aK dz (aj (af 3) aI))))) (bN (dh 5 (lH (fJ aI))) (bN (jM (iP (et (af 1))) (jk 6) jg) (bN (dh 7 (lH (fJ aI))) (bN (jM (oy (x2 eE (xP (eC (.int 1))) (dc bq (aA (cF 0) (aA (xP (eC (.int 4))) cR))))) (jk 8) jd) (iR (uL (aA (cF 3) (aA (cF 5) (aA (cF 7) cR))))))))))))
noncomputable def mW:List V3→aN→R3 V3:=mi gP kF
noncomputable def h_:List V3→aN→R3 V3:=n4 gP kF
theorem tR{P:Program}{w:World}{K:PySem.W.Frag}{mg:Str→Option Value}{base:Heap}{cl:Nat→Addr}(T:Tp K mg cl)(h:Def K mg (Str.ofString "_law_plain") dI)(XP_law_names:aP P w K mg base cl 2 (Str.ofString "_law_names") 2 gd)(XP_law_take:aP P w K mg base cl 1 (Str.ofString "_law_take") 2 bq)(XK_law_reel:aP P w K mg base cl 1 (Str.ofString "_law_reel") 1 eL)(XP_law_gate:aP P w K mg base cl 2 (Str.ofString "_law_gate") 3 gT):aP P w K mg base cl 3 (Str.ofString "_law_plain") 2 mW:=by
 obtain⟨f,fd,F,hm⟩:=h
 exact⟨f,fd,_,cv (k:=2) rZ.2 jL.2 F d7 (fun cdv A outer s H E hr=>(aw (bB d7.nd rfl (Or.inr rfl) (bS XP_law_names hr (by decide) rfl (ao (bt 0) (ao (au ag) aT)) (aq (aq aW)))) (aw (mf rfl d7.nd rfl rfl (cf.of (own:=[(Str.ofString "k")]) (kp:=[2]) (kn:=[(Str.ofString "names")]) (sc:=jL.1) (N:=gP) rfl rfl (by decide+kernel)) (jY (q9 gx (au ag) (bS XP_law_take hr (by decide) rfl (ao (bt 0) (ao (au ag) aT)) (aq (aq aW)))) rfl T.z_range) (fun _ _ _=>(bb (show List.Nodup [(Str.ofString "k"),(Str.ofString "names")] from by decide+kernel) rfl (Or.inl rfl))) (fun _ _ _=>jC) (fun _ _ _=>(au (bE (ab (az (aa 1) (aD ox ag (aa 0)) (fun _ _=>rfl)) (ab ag ah)))))) (aw (bB d7.nd rfl (Or.inl rfl) (gy (Cm rfl (aR er rfl T.z_len PySem.boot_len (ab (aa 3) ah)) rfl T.z_list rfl T.z_range))) (aw (bB d7.nd rfl (Or.inl rfl) (gy (cV ah))) (aw (eR PassesOwn.never rfl (cQ (cx (aa 1))) (bb d7.nd rfl (Or.inl rfl)) (aw (iO rfl (Or.inl rfl) (bS XP_law_gate hr (by decide) rfl (ao (bS XK_law_reel hr (by decide) rfl (ao (au (aa 6)) aT) (aq aW)) (ao (bt 4) (ao (au ag) aT))) (aq (aq (aq aW))))) (aU (iO rfl (Or.inl rfl) (d_ (aR er rfl T.z_len PySem.boot_len (ab (aa 4) ah))))))) (aw (bB d7.nd rfl (Or.inl rfl) (gy (cV ah))) (aw (eR PassesOwn.never rfl (jY (q9 gx (au ag) (bS XP_law_take hr (by decide) rfl (ao (bt 0) (ao (au ag) aT)) (aq (aq aW)))) rfl T.z_range) (bb d7.nd rfl (Or.inl rfl)) (aU (iO rfl (Or.inl rfl) (nJ (ao (au (az (aa 2) (aa 8) (fun _ _=>rfl))) (ao (nJ (ao (q9 ox (d_ (aD ox (aR er rfl T.z_len PySem.boot_len (ab (aa 4) ah)) ag)) (bS XP_law_take hr (by decide) rfl (ao (bt 0) (ao (d_ (aR er rfl T.z_len PySem.boot_len (ab (aa 4) ah))) aT)) (aq (aq aW)))) aT)) aT)))))) (aU (dZ (nJ (ao (bt 3) (ao (bt 5) (ao (bt 7) aT)))))))))))))),hm,F.kp,F.binds fun _ _ _ _ _ _ us hl=>match us,hl with | [_,_],_=>rfl⟩
noncomputable abbrev cW:Stmt:=top 34
noncomputable abbrev my:List Str:=[(Str.ofString "net"),(Str.ofString "place"),(Str.ofString "bits"),(Str.ofString "now")]
noncomputable def qM:{b:List Stmt // ai cW=b}:=by
 have e:ai cW=ai cW:=rfl
 conv at e=>rhs;whnf
 exact⟨_,e⟩
noncomputable def lp:{b:Scope // ae cW=b}:=by
 have e:ae cW=ae cW:=rfl
 conv at e=>rhs;whnf
 exact⟨_,e⟩
theorem hV:aY my [(Str.ofString "net")] lp.1:=⟨rfl,rfl,rfl,by decide+kernel,rfl,by decide+kernel,by decide+kernel⟩
noncomputable def ik:FS:=(dj (il 3 (aK c6 (aj (af 0) (aj (af 2) (aj (cP (aj (af 1) aI)) (aj (cP aI) aI)))))) (mr (mK (k8 (k9 (e2 cb (e2 cb (e2 cb (af 0) (eC (.int 1))) (af 1)) (eC (.int 2))))) (b2 tF (af 3) (aK c6 (aj (af 0) (aj (af 2) (aj (cP aI) (aj (cP aI) aI))))))) (dQ (eC (.bl true))) gU))
noncomputable def iy:FS:=(mE (et (aK eY (aj (aK dz (aj (e2 cb (af 0) (eC (.int 0))) aI)) aI))) (aJ 2) ik)
noncomputable def nc:FS:=(dj (mE (dn (aK dz (aj (e2 cb (af 0) (eC (.int 1))) aI))) (aJ 1) iy) (dQ (eC (.bl false))))
noncomputable def gm:List D→R D:=mj my nc
theorem tf{P:Program}{w:World}{K:PySem.W.Frag}{mg:Str→Option Value}{base:Heap}{cl:Nat→Addr}(T:Tp K mg cl)(h:Def K mg (Str.ofString "_law_spoils") cW)(C_law_inputs:Callee P w K mg base 1 (Str.ofString "_law_inputs") 1 eY)(C_law_reads:Callee P w K mg base 3 (Str.ofString "_law_reads") 4 c6):Callee P w K mg base 4 (Str.ofString "_law_spoils") 1 gm:=by
 obtain⟨f,fd,F,hm⟩:=h
 exact⟨f,fd,_,cA (k:=3) qM.2 lp.2 F hV (fun cdv A outer s H E hr=>(aV (fw PassesOwn.never rfl (bG (aR er rfl T.z_len PySem.boot_len (ab (az (aa 0) ag (fun _ _=>rfl)) ah)) rfl T.z_range) (aS hV.nd rfl (Or.inl rfl)) (aO (fw PassesOwn.never rfl (cx (bU C_law_inputs hr (by decide) rfl (ab (aR er rfl T.z_len PySem.boot_len (ab (az (aa 0) ag (fun _ _=>rfl)) ah)) ah) (aL cw))) (aS hV.nd rfl (Or.inl rfl)) (aV (fm hV.nd rfl (Or.inl rfl) (bU C_law_reads hr (by decide) rfl (ab (aa 0) (ab (aa 2) (ab (bE (ab (aa 1) ah)) (ab (bE ah) ah)))) (aL (aL (aL (aL cw)))))) (aO (eF (sC (uZ (xm (xo (az (az (az (aa 0) ag (fun _ _=>rfl)) (aa 1) (fun _ _=>rfl)) ag (fun _ _=>rfl)))) (rg (bW (zy hr.units) (aa 3) (bU C_law_reads hr (by decide) rfl (ab (aa 0) (ab (aa 2) (ab (bE ah) (ab (bE ah) ah)))) (aL (aL (aL (aL cw))))) (ck _))))) (aO (bw pM)) du)))))) (aO (bw pM)))),hm,F.kp,F.binds fun _ _ _ _ _ _ us hl=>match us,hl with | [_],_=>rfl⟩
noncomputable abbrev oj:Stmt:=top 35
noncomputable abbrev oa:List Str:=[(Str.ofString "script"),(Str.ofString "reel"),(Str.ofString "cells"),(Str.ofString "k"),(Str.ofString "net"),(Str.ofString "three"),(Str.ofString "pair"),(Str.ofString "some"),(Str.ofString "level"),(Str.ofString "sure")]
noncomputable def Gw:{b:List Stmt // ai oj=b}:=by
 have e:ai oj=ai oj:=rfl
 conv at e=>rhs;whnf
 exact⟨_,e⟩
noncomputable def wV:{b:Scope // ae oj=b}:=by
 have e:ae oj=ae oj:=rfl
 conv at e=>rhs;whnf
 exact⟨_,e⟩
theorem kT:aY oa [(Str.ofString "script")] wV.1:=⟨rfl,rfl,rfl,by decide+kernel,rfl,by decide+kernel,by decide+kernel⟩
noncomputable def yd:FZ:=(dh 2 (x2 eE (xP (af 2)) (FH (aA (dc bq (aA (cF 1) (aA (xP (e2 pY (eC (.int 10)) (eC (.int 40)))) cR))) cR))))
noncomputable def xC:FZ:=(Dw (JL (GU tF (dc fD (aA (xP (af 7)) (aA (xP (eC (.int 1))) (aA (xP (af 8)) cR)))) (xP (cP (aj (eC (.str (Str.ofString "bears"))) aI)))) (GU tF (dc fD (aA (xP (af 7)) (aA (xP (eC (.int 0))) (aA (xP (af 8)) cR)))) (xP (cP (aj (eC (.str (Str.ofString "bears"))) aI))))) (iR (xP (eC (.bl false)))) ve)
noncomputable def rM:FZ:=(bN (dh 1 (dc eL (aA (xP (aK eA (aj (af 0) (aj (eC (.int 0)) aI)))) cR))) (bN (dh 2 (xP (wj (af 0) (g6 (eC (.int 1))) (g6 (eC (.int 16)))))) (bN (jM (iP (dn (e2 jr (eC (.int 2)) (aK dz (aj (af 2) aI))))) (jk 3) yd) (bN (dh 4 (dc h_ (aA (cF 1) (aA (xP (af 2)) cR)))) (bN (dh 5 (dc dF (aA (xP (af 4)) (aA (xP (eC (.int 3))) cR)))) (bN (dh 6 (dc dF (aA (xP (af 4)) (aA (xP (eC (.int 2))) cR)))) (bN (jM (iP (et (eNew (fJ (aj (cP (aj (af 5) (aj (eC (.str (Str.ofString "right"))) aI))) (aj (cP (aj (af 5) (aj (eC (.str (Str.ofString "safe"))) aI))) (aj (cP (aj (af 6) (aj (eC (.str (Str.ofString "safe"))) aI))) aI))))))) (u7 2 (oF (jk 7) (oF (jk 8) vp))) xC) (bN (Dw (GU jA (x2 jA (dc fD (aA (xP (af 6)) (aA (xP (eC (.int 1))) (aA (xP (eC (.str (Str.ofString "right")))) cR)))) (xP (cP (aj (eC (.str (Str.ofString "bears"))) aI)))) (xP (aK gm (aj (af 4) aI)))) (iR (xP (eC (.bl false)))) ve) (bN (dh 9 (kz (iP (et (e2 cb (af 5) (eC (.int 1))))) (u7 3 (oF (jk 0) (oF (jk 1) (oF (jk 2) vp)))) wM (xP (cP (aj (af 0) (aj (af 1) (aj (eC (.bl true)) aI))))) [(Str.ofString "kind"),(Str.ofString "wires"),(Str.ofString "so")] [])) (iR (x2 jA (dc fD (aA (xP (cP (aj (e2 cb (af 5) (eC (.int 0))) (aj (af 9) (aj (e2 cb (af 5) (eC (.int 2))) aI))))) (aA (xP (eC (.int 3))) (aA (xP (eC (.str (Str.ofString "right")))) cR)))) (xP (cP (aj (eC (.str (Str.ofString "bears"))) aI))))))))))))))
noncomputable def JG:List V3→aN→R3 V3:=mi oa rM
noncomputable def ID:List V3→aN→R3 V3:=n4 oa rM
noncomputable def xE:List D→R D:=Il oa rM
structure Cf (K:PySem.W.Frag) (mg:Str→Option Value) (cl:Nat→Addr):Prop where
 C_Bench:tH K (cl 0)
 N_Bench_net:df K (cl 0) (Str.ofString "net")
 N_Bench_many_inputs:df K (cl 0) (Str.ofString "many_inputs")
 N_Bench_full:df K (cl 0) (Str.ofString "full")
 N_Bench_in_masks:df K (cl 0) (Str.ofString "in_masks")
 M_Bench:mg (Str.ofString "Bench")=some (.ref (cl 0))
 C_Trial:tH K (cl 1)
 N_Trial_bench:df K (cl 1) (Str.ofString "bench")
 N_Trial_plain:df K (cl 1) (Str.ofString "plain")
 N_Trial_unsure:df K (cl 1) (Str.ofString "unsure")
 M_Trial:mg (Str.ofString "Trial")=some (.ref (cl 1))
 D_Bench___init__:zc K (cl 0) (Str.ofString "__init__") (Str.ofString "Bench.__init__") bf
 D_Bench_tells:oK K (cl 0) (Str.ofString "tells") (Str.ofString "Bench.tells") bF
 D_Bench_readings:oK K (cl 0) (Str.ofString "readings") (Str.ofString "Bench.readings") bg
 D_Trial___init__:zc K (cl 1) (Str.ofString "__init__") (Str.ofString "Trial.__init__") bh
 D_Trial_breaks_at:oK K (cl 1) (Str.ofString "breaks_at") (Str.ofString "Trial.breaks_at") a_
 D_Bench_inputs_in:oK K (cl 0) (Str.ofString "inputs_in") (Str.ofString "Bench.inputs_in") aX
theorem HB{K:PySem.W.Frag}{h:Heap}{mg:Str→Option Value}(X:K.In h)(G:h.Ns mainGlobals mg){C0:Addr}{C1:Addr}{f0:Addr}{od0 an0:Option Addr}{sl0:Array (Option Value)}{oc0 kV0 dc0 pm0 cd0 ct0:Value}{f1:Addr}{od1 an1:Option Addr}{sl1:Array (Option Value)}{oc1 kV1 dc1 pm1 cd1 ct1:Value}{f2:Addr}{od2 an2:Option Addr}{sl2:Array (Option Value)}{oc2 kV2 dc2 pm2 cd2 ct2:Value}{f3:Addr}{od3 an3:Option Addr}{sl3:Array (Option Value)}{oc3 kV3 dc3 pm3 cd3 ct3:Value}{f4:Addr}{od4 an4:Option Addr}{sl4:Array (Option Value)}{oc4 kV4 dc4 pm4 cd4 ct4:Value}{f5:Addr}{od5 an5:Option Addr}{sl5:Array (Option Value)}{oc5 kV5 dc5 pm5 cd5 ct5:Value}(aC0:PySem.W.nsIn K mainGlobals (Str.ofString "Bench")=some (some (.ref C0)))(pg0:PySem.W.plainGet K C0 Str.empty=true)(hd0:PySem.W.hasDictIn K C0=true)(po0:PySem.W.plainOver K C0=true)(sa0:PySem.W.findIn K (.ref C0) "__setattr__"=some (some (.builtin "object.__setattr__")))(mk0:PySem.W.makesIn K C0=true)(kc0:PySem.W.keepIn K (.ref C0)=true)(n0_net:PySem.W.findIn K (.ref C0) (Str.ofString "net")=some none)(n0_many_inputs:PySem.W.findIn K (.ref C0) (Str.ofString "many_inputs")=some none)(n0_full:PySem.W.findIn K (.ref C0) (Str.ofString "full")=some none)(n0_in_masks:PySem.W.findIn K (.ref C0) (Str.ofString "in_masks")=some none)(aC1:PySem.W.nsIn K mainGlobals (Str.ofString "Trial")=some (some (.ref C1)))(pg1:PySem.W.plainGet K C1 Str.empty=true)(hd1:PySem.W.hasDictIn K C1=true)(po1:PySem.W.plainOver K C1=true)(sa1:PySem.W.findIn K (.ref C1) "__setattr__"=some (some (.builtin "object.__setattr__")))(mk1:PySem.W.makesIn K C1=true)(kc1:PySem.W.keepIn K (.ref C1)=true)(n1_bench:PySem.W.findIn K (.ref C1) (Str.ofString "bench")=some none)(n1_plain:PySem.W.findIn K (.ref C1) (Str.ofString "plain")=some none)(n1_unsure:PySem.W.findIn K (.ref C1) (Str.ofString "unsure")=some none)(a_Bench___init__:PySem.W.findIn K (.ref C0) (Str.ofString "__init__")=some (some (.ref f0)))(i_Bench___init__:PySem.W.isFn K (.ref f0)=true)(l_Bench___init__:K.lookup f0=some ⟨oc0,od0, .func (PySem.W.fnOf (Str.ofString "__init__") (Str.ofString "Bench.__init__") (f7 bf) (ai bf) (ae bf) .none kV0 dc0 pm0 an0 cd0 ct0),sl0⟩)(d4:PySem.W.codeIn K cd0 (Str.ofString "Bench.__init__")=true)(k_Bench___init__:PySem.W.keepIn K (.ref f0)=true)(a_Bench_tells:PySem.W.findIn K (.ref C0) (Str.ofString "tells")=some (some (.ref f1)))(i_Bench_tells:PySem.W.isFn K (.ref f1)=true)(l_Bench_tells:K.lookup f1=some ⟨oc1,od1, .func (PySem.W.fnOf (Str.ofString "tells") (Str.ofString "Bench.tells") (f7 bF) (ai bF) (ae bF) .none kV1 dc1 pm1 an1 cd1 ct1),sl1⟩)(fE:PySem.W.codeIn K cd1 (Str.ofString "Bench.tells")=true)(k_Bench_tells:PySem.W.keepIn K (.ref f1)=true)(a_Bench_readings:PySem.W.findIn K (.ref C0) (Str.ofString "readings")=some (some (.ref f2)))(i_Bench_readings:PySem.W.isFn K (.ref f2)=true)(l_Bench_readings:K.lookup f2=some ⟨oc2,od2, .func (PySem.W.fnOf (Str.ofString "readings") (Str.ofString "Bench.readings") (f7 bg) (ai bg) (ae bg) .none kV2 dc2 pm2 an2 cd2 ct2),sl2⟩)(dW:PySem.W.codeIn K cd2 (Str.ofString "Bench.readings")=true)(k_Bench_readings:PySem.W.keepIn K (.ref f2)=true)(a_Trial___init__:PySem.W.findIn K (.ref C1) (Str.ofString "__init__")=some (some (.ref f3)))(i_Trial___init__:PySem.W.isFn K (.ref f3)=true)(l_Trial___init__:K.lookup f3=some ⟨oc3,od3, .func (PySem.W.fnOf (Str.ofString "__init__") (Str.ofString "Trial.__init__") (f7 bh) (ai bh) (ae bh) .none kV3 dc3 pm3 an3 cd3 ct3),sl3⟩)(d3:PySem.W.codeIn K cd3 (Str.ofString "Trial.__init__")=true)(k_Trial___init__:PySem.W.keepIn K (.ref f3)=true)(a_Trial_breaks_at:PySem.W.findIn K (.ref C1) (Str.ofString "breaks_at")=some (some (.ref f4)))(i_Trial_breaks_at:PySem.W.isFn K (.ref f4)=true)(l_Trial_breaks_at:K.lookup f4=some ⟨oc4,od4, .func (PySem.W.fnOf (Str.ofString "breaks_at") (Str.ofString "Trial.breaks_at") (f7 a_) (ai a_) (ae a_) .none kV4 dc4 pm4 an4 cd4 ct4),sl4⟩)(dE:PySem.W.codeIn K cd4 (Str.ofString "Trial.breaks_at")=true)(k_Trial_breaks_at:PySem.W.keepIn K (.ref f4)=true)(a_Bench_inputs_in:PySem.W.findIn K (.ref C0) (Str.ofString "inputs_in")=some (some (.ref f5)))(i_Bench_inputs_in:PySem.W.isFn K (.ref f5)=true)(l_Bench_inputs_in:K.lookup f5=some ⟨oc5,od5, .func (PySem.W.fnOf (Str.ofString "inputs_in") (Str.ofString "Bench.inputs_in") (f7 aX) (ai aX) (ae aX) .none kV5 dc5 pm5 an5 cd5 ct5),sl5⟩)(dv:PySem.W.codeIn K cd5 (Str.ofString "Bench.inputs_in")=true)(k_Bench_inputs_in:PySem.W.keepIn K (.ref f5)=true):∃cl,Cf K mg cl:=by
 exact⟨fun n=>if n=0 then C0 else C1,⟨pg0,hd0,po0,sa0⟩,n0_net,n0_many_inputs,n0_full,n0_in_masks,PySem.W.mg_of X G aC0,⟨pg1,hd1,po1,sa1⟩,n1_bench,n1_plain,n1_unsure,PySem.W.mg_of X G aC1,⟨_,_,l4 (st:=bf) l_Bench___init__ d4 k_Bench___init__,⟨mk0,a_Bench___init__,i_Bench___init__,kc0⟩⟩,⟨_,_,l4 (st:=bF) l_Bench_tells fE k_Bench_tells,⟨a_Bench_tells,i_Bench_tells,k_Bench_tells⟩⟩,⟨_,_,l4 (st:=bg) l_Bench_readings dW k_Bench_readings,⟨a_Bench_readings,i_Bench_readings,k_Bench_readings⟩⟩,⟨_,_,l4 (st:=bh) l_Trial___init__ d3 k_Trial___init__,⟨mk1,a_Trial___init__,i_Trial___init__,kc1⟩⟩,⟨_,_,l4 (st:=a_) l_Trial_breaks_at dE k_Trial_breaks_at,⟨a_Trial_breaks_at,i_Trial_breaks_at,k_Trial_breaks_at⟩⟩,⟨_,_,l4 (st:=aX) l_Bench_inputs_in dv k_Bench_inputs_in,⟨a_Bench_inputs_in,i_Bench_inputs_in,k_Bench_inputs_in⟩⟩⟩
theorem FW{P:Program}{w:World}{K:PySem.W.Frag}{mg:Str→Option Value}{base:Heap}{f:Addr}{fd:FuncData}{cl:Nat→Addr}(T:Tp K mg cl)(D_vote_of:Def K mg (Str.ofString "vote_of") eS)(D_gate_mask:Def K mg (Str.ofString "gate_mask") dD)(D_in_wire_masks:Def K mg (Str.ofString "in_wire_masks") bV)(D_masks_at:Def K mg (Str.ofString "masks_at") d8)(D_wire_masks:Def K mg (Str.ofString "wire_masks") cS)(D_out_masks:Def K mg (Str.ofString "out_masks") dC)(D_reading:Def K mg (Str.ofString "reading") eV)(D_bit_at:Def K mg (Str.ofString "bit_at") f6)(D_all_inputs:Def K mg (Str.ofString "all_inputs") cX)(D_mask_of:Def K mg (Str.ofString "mask_of") eZ)(D_in_mask:Def K mg (Str.ofString "in_mask") e8)(D_choices:Def K mg (Str.ofString "choices") eU)(D_Bench___init__:zc K (cl 0) (Str.ofString "__init__") (Str.ofString "Bench.__init__") bf)(D_Bench_tells:oK K (cl 0) (Str.ofString "tells") (Str.ofString "Bench.tells") bF)(D_Bench_readings:oK K (cl 0) (Str.ofString "readings") (Str.ofString "Bench.readings") bg)(D_Trial___init__:zc K (cl 1) (Str.ofString "__init__") (Str.ofString "Trial.__init__") bh)(D_Trial_breaks_at:oK K (cl 1) (Str.ofString "breaks_at") (Str.ofString "Trial.breaks_at") a_)(D_Bench_inputs_in:oK K (cl 0) (Str.ofString "inputs_in") (Str.ofString "Bench.inputs_in") aX)(D_bears:Def K mg (Str.ofString "bears") g_)(D_law_cell_at:Def K mg (Str.ofString "_law_cell_at") cD)(D_law_reel:Def K mg (Str.ofString "_law_reel") eg)(D_law_take:Def K mg (Str.ofString "_law_take") ef)(D_law_names:Def K mg (Str.ofString "_law_names") dr)(D_law_gate:Def K mg (Str.ofString "_law_gate") eh)(D_law_gate_bit:Def K mg (Str.ofString "_law_gate_bit") cg)(D_law_wires:Def K mg (Str.ofString "_law_wires") dt)(D_law_read:Def K mg (Str.ofString "_law_read") ee)(D_law_reads:Def K mg (Str.ofString "_law_reads") dG)(D_law_inputs:Def K mg (Str.ofString "_law_inputs") cU)(D_law_many_times:Def K mg (Str.ofString "_law_many_times") bK)(D_law_plain:Def K mg (Str.ofString "_law_plain") dI)(D_law_spoils:Def K mg (Str.ofString "_law_spoils") cW)(F:yc K (Str.ofString "law") (Str.ofString "law") oj f fd):hJ P w K mg base qQ 9 f fd [Str.ofString "script"] (Bq K 1 xE):=by
 have C_vote_of:Callee P w K mg base 1 (Str.ofString "vote_of") 1 fR:=y1 T D_vote_of
 have C_gate_mask:Callee P w K mg base 2 (Str.ofString "gate_mask") 3 fQ:=uj T D_gate_mask C_vote_of
 have XK_in_wire_masks:aP P w K mg base cl 1 (Str.ofString "in_wire_masks") 4 c_:=oS T D_in_wire_masks
 have XP_in_wire_masks:aP P w K mg base cl 1 (Str.ofString "in_wire_masks") 4 nP:=XK_in_wire_masks.p
 have C_masks_at:Callee P w K mg base 1 (Str.ofString "masks_at") 2 eK:=wq T D_masks_at
 have XK_wire_masks:aP P w K mg base cl 3 (Str.ofString "wire_masks") 5 lA:=rW T D_wire_masks C_masks_at C_gate_mask XK_in_wire_masks
 have XP_wire_masks:aP P w K mg base cl 3 (Str.ofString "wire_masks") 5 fB:=XK_wire_masks.p
 have XK_out_masks:aP P w K mg base cl 2 (Str.ofString "out_masks") 2 m6:=t6 T D_out_masks C_masks_at
 have XP_out_masks:aP P w K mg base cl 2 (Str.ofString "out_masks") 2 f_:=XK_out_masks.p
 have C_reading:Callee P w K mg base 2 (Str.ofString "reading") 2 ie:=yt T D_reading C_vote_of
 have C_bit_at:Callee P w K mg base 1 (Str.ofString "bit_at") 2 jB:=zP T D_bit_at
 have XK_all_inputs:aP P w K mg base cl 1 (Str.ofString "all_inputs") 1 lB:=sQ T D_all_inputs
 have XP_all_inputs:aP P w K mg base cl 1 (Str.ofString "all_inputs") 1 fA:=XK_all_inputs.p
 have C_mask_of:Callee P w K mg base 1 (Str.ofString "mask_of") 1 fM:=yA T D_mask_of
 have C_in_mask:Callee P w K mg base 2 (Str.ofString "in_mask") 2 ia:=yS T D_in_mask C_mask_of
 have C_choices:Callee P w K mg base 5 (Str.ofString "choices") 2 (dU 4):=rp T D_choices 4
 have XK_Bench___init__:px P w K mg base cl 3 0 (Str.ofString "Bench") 1 cL:=d4 T D_Bench___init__ C_mask_of C_in_mask XP_all_inputs
 have XK_Bench_tells:ft P w K mg base cl 4 0 (Str.ofString "tells") 2 kg:=fE T D_Bench_tells XP_wire_masks XP_out_masks
 have XP_Bench_tells:ft P w K mg base cl 4 0 (Str.ofString "tells") 2 eM:=XK_Bench_tells.p
 have XK_Bench_readings:ft P w K mg base cl 5 0 (Str.ofString "readings") 1 i4:=dW T D_Bench_readings C_reading XP_Bench_tells
 have XP_Bench_readings:ft P w K mg base cl 5 0 (Str.ofString "readings") 1 cm:=XK_Bench_readings.p
 have XK_Trial___init__:px P w K mg base cl 6 1 (Str.ofString "Trial") 1 cN:=d3 T D_Trial___init__ XK_Bench___init__ XP_Bench_readings
 have XK_Trial_breaks_at:ft P w K mg base cl 6 1 (Str.ofString "breaks_at") 2 iG:=dE T D_Trial_breaks_at XP_Bench_readings
 have XP_Trial_breaks_at:ft P w K mg base cl 6 1 (Str.ofString "breaks_at") 2 de:=XK_Trial_breaks_at.p
 have XK_Bench_inputs_in:ft P w K mg base cl 2 0 (Str.ofString "inputs_in") 1 ip:=dv T D_Bench_inputs_in C_bit_at
 have XP_Bench_inputs_in:ft P w K mg base cl 2 0 (Str.ofString "inputs_in") 1 dg:=XK_Bench_inputs_in.p
 have XK_bears:aP P w K mg base cl 8 (Str.ofString "bears") 3 ub:=DO T D_bears C_choices XK_Trial___init__ XP_Trial_breaks_at XP_Bench_inputs_in
 have XP_bears:aP P w K mg base cl 8 (Str.ofString "bears") 3 fD:=XK_bears.p
 have C_law_cell_at:Callee P w K mg base 1 (Str.ofString "_law_cell_at") 2 eA:=qI T D_law_cell_at
 have XK_law_reel:aP P w K mg base cl 1 (Str.ofString "_law_reel") 1 eL:=vM T D_law_reel
 have XP_law_reel:aP P w K mg base cl 1 (Str.ofString "_law_reel") 1 vg:=XK_law_reel.p
 have XK_law_take:aP P w K mg base cl 1 (Str.ofString "_law_take") 2 om:=vQ T D_law_take
 have XP_law_take:aP P w K mg base cl 1 (Str.ofString "_law_take") 2 bq:=XK_law_take.p
 have XK_law_names:aP P w K mg base cl 2 (Str.ofString "_law_names") 2 mV:=tP T D_law_names XP_law_take
 have XP_law_names:aP P w K mg base cl 2 (Str.ofString "_law_names") 2 gd:=XK_law_names.p
 have XK_law_gate:aP P w K mg base cl 2 (Str.ofString "_law_gate") 3 n0:=wu T D_law_gate XP_law_take
 have XP_law_gate:aP P w K mg base cl 2 (Str.ofString "_law_gate") 3 gT:=XK_law_gate.p
 have C_law_gate_bit:Callee P w K mg base 1 (Str.ofString "_law_gate_bit") 2 eP:=pH T D_law_gate_bit
 have C_law_wires:Callee P w K mg base 2 (Str.ofString "_law_wires") 4 fO:=tQ T D_law_wires C_law_gate_bit
 have C_law_read:Callee P w K mg base 1 (Str.ofString "_law_read") 1 iJ:=wR T D_law_read
 have C_law_reads:Callee P w K mg base 3 (Str.ofString "_law_reads") 4 c6:=vj T D_law_reads C_law_wires C_law_read
 have C_law_inputs:Callee P w K mg base 1 (Str.ofString "_law_inputs") 1 eY:=sj T D_law_inputs
 have XK_law_many_times:aP P w K mg base cl 1 (Str.ofString "_law_many_times") 2 iT:=nB T D_law_many_times
 have XP_law_many_times:aP P w K mg base cl 1 (Str.ofString "_law_many_times") 2 dF:=XK_law_many_times.p
 have XK_law_plain:aP P w K mg base cl 3 (Str.ofString "_law_plain") 2 mW:=tR T D_law_plain XP_law_names XP_law_take XK_law_reel XP_law_gate
 have XP_law_plain:aP P w K mg base cl 3 (Str.ofString "_law_plain") 2 h_:=XK_law_plain.p
 have C_law_spoils:Callee P w K mg base 4 (Str.ofString "_law_spoils") 1 gm:=tf T D_law_spoils C_law_inputs C_law_reads
 exact(cv (cl:=cl) (N:=oa) (F:=rM) (k:=8) Gw.2 wV.2 F kT (fun cdv A outer s H E hr=>(aw (bB kT.nd rfl (Or.inl rfl) (bS XK_law_reel hr (by decide) rfl (ao (au (bU C_law_cell_at hr (by decide) rfl (ab (aa 0) (ab ag ah)) (aL (aL cw)))) aT) (aq aW))) (aw (bB kT.nd rfl (Or.inl rfl) (au (vO (aa 0) (mN ag) (mN ag)))) (aw (eR PassesOwn.never rfl (cQ (bG (aD ox ag (aR er rfl T.z_len PySem.boot_len (ab (aa 2) ah))) rfl T.z_range)) (bb kT.nd rfl (Or.inl rfl)) (aU (bB kT.nd rfl (Or.inl rfl) (q9 gx (au (aa 2)) (Fu (ao (bS XP_law_take hr (by decide) rfl (ao (bt 1) (ao (au (aD DY ag ag)) aT)) (aq (aq aW))) aT)))))) (aw (bB kT.nd rfl (Or.inl rfl) (bS XP_law_plain hr (by decide) rfl (ao (bt 1) (ao (au (aa 2)) aT)) (aq (aq aW)))) (aw (bB kT.nd rfl (Or.inl rfl) (bS XP_law_many_times hr (by decide) rfl (ao (au (aa 4)) (ao (au ag) aT)) (aq (aq aW)))) (aw (bB kT.nd rfl (Or.inl rfl) (bS XP_law_many_times hr (by decide) rfl (ao (au (aa 4)) (ao (au ag) aT)) (aq (aq aW)))) (aw (eR PassesOwn.never rfl (cQ (cx (di (cV (ab (bE (ab (aa 5) (ab aZ ah))) (ab (bE (ab (aa 5) (ab aZ ah))) (ab (bE (ab (aa 6) (ab aZ ah))) ah))))))) (jJ rfl (cu (bb kT.nd rfl (Or.inl rfl)) (cu (bb kT.nd rfl (Or.inl rfl)) iz))) (aU (qY (GH.pb (Es (sx (zy hr.units) (bS XP_bears hr (by decide) rfl (ao (au (aa 7)) (ao (au ag) (ao (au (aa 8)) aT))) (aq (aq (aq aW)))) (au (bE (ab aZ ah))) (ck _)) (Dg (sx (zy hr.units) (bS XP_bears hr (by decide) rfl (ao (au (aa 7)) (ao (au ag) (ao (au (aa 8)) aT))) (aq (aq (aq aW)))) (au (bE (ab aZ ah))) (ck _))))) (aU (dZ (au pM))) mm))) (aw (qY (sx (jS hr.units) (wH (jS hr.units) (bS XP_bears hr (by decide) rfl (ao (au (aa 6)) (ao (au ag) (ao (au aZ) aT))) (aq (aq (aq aW)))) (au (bE (ab aZ ah))) (ck _)) (au (bU C_law_spoils hr (by decide) rfl (ab (aa 4) ah) (aL cw))) (ck _)) (aU (dZ (au pM))) mm) (aw (mf rfl kT.nd rfl rfl (cf.of (own:=[(Str.ofString "kind"),(Str.ofString "wires"),(Str.ofString "so")]) (kp:=[]) (kn:=[]) (sc:=wV.1) (N:=oa) rfl rfl (by decide+kernel)) (cQ (cx (az (aa 5) ag (fun _ _=>rfl)))) (fun _ _ _=>(jJ rfl (cu (bb (show List.Nodup [(Str.ofString "kind"),(Str.ofString "wires"),(Str.ofString "so")] from by decide+kernel) rfl (Or.inl rfl)) (cu (bb (show List.Nodup [(Str.ofString "kind"),(Str.ofString "wires"),(Str.ofString "so")] from by decide+kernel) rfl (Or.inl rfl)) (cu (bb (show List.Nodup [(Str.ofString "kind"),(Str.ofString "wires"),(Str.ofString "so")] from by decide+kernel) rfl (Or.inl rfl)) iz))))) (fun _ _ _=>jC) (fun _ _ _=>(au (bE (ab (aa 0) (ab (aa 1) (ab pM ah))))))) (aU (dZ (wH (jS hr.units) (bS XP_bears hr (by decide) rfl (ao (au (bE (ab (az (aa 5) ag (fun _ _=>rfl)) (ab (aa 9) (ab (az (aa 5) ag (fun _ _=>rfl)) ah))))) (ao (au ag) (ao (au aZ) aT))) (aq (aq (aq aW)))) (au (bE (ab aZ ah))) (ck _))))))))))))))).imp fun _ _ _ _ h=>Fy h
end K16
end
section
set_option maxRecDepth 100000
set_option maxHeartbeats 4000000
namespace K16
open PySem PySem.Spec PyProof.Rows L2 L3
theorem mY{S:aN}{k:Nat}{o x:SO}(h:S[k]? =some x):(S.set k o)[k]? =some o:=by
 obtain⟨h1,_⟩:=List.getElem?_eq_some_iff.mp h
 rw[List.getElem?_set_self h1]
noncomputable def tG(k:Nat)(S:aN):Prop:=Flat S∧∃a c,S[k]? =some (.lst [.int a, .int c])
structure Ev (k:Nat) (S S1:aN):Prop where
 p:tG k S1
 len:S1.length=S.length
 oth:∀j,j≠k→S1[j]? =S[j]?
theorem Ev.trans{k:Nat}{S S1 S2:aN}(a:Ev k S S1)(b:Ev k S1 S2):Ev k S S2:=⟨b.p,b.len.trans a.len,fun j h=>(b.oth j h).trans (a.oth j h)⟩
theorem tG.lt{k:Nat}{S:aN}(p:tG k S):k < S.length:=by
 obtain⟨_,a,c,e⟩:=p
 exact(List.getElem?_eq_some_iff.mp e).1
theorem pN(ds:List D):∀n,oQ n (.lst ds)=true:=fun _=>rfl
theorem xr{a b:Int}(h:0 < b)(h2:b.natAbs.log2 < 9000):t4 (.int a) (.int b)= .ok (.int (a / b)):=by unfold t4 tI;exact bH _ ⟨h,h2⟩
theorem qX{m:Int}(h0:0 < m)(h:m < 1000000):m.natAbs.log2 < 9000:=by
 have h1:m.natAbs≠0:=by omega
 have:m.natAbs.log2 < 20:=(Nat.log2_lt h1).mpr (by omega)
 omega
theorem sY{S:aN}{k:Nat}{m:Int}(p:tG k S)(hm:0 < m)(hm2:m.natAbs.log2 < 9000){Q:V3→aN→Prop}
 (h:∀(r:Int) S1,0≤r→r < m→Ev k S S1→Q (.d (.int r)) S1):W3 (bq [.loc k, .d (.int m)] S) Q:=by
 obtain⟨hL,a,c,e⟩:=p
 have fin:∀(r:Int) S2,0≤r→r < m→Ev k S S2→Flat S2∧eO S.length (.d (.int r))=true∧∃d,res S2 (.d (.int r))=some d∧Q (.d d) (S2.take S.length):=fun r S2 h1 h2 v=>by
  refine⟨v.p.1,by unfold eO;rfl, .int r,by unfold res;rfl,?_⟩
  rw[List.take_of_length_le (by have:=v.len;omega)]
  exact h r S2 h1 h2 v
 have h0:cb (.lst [.int a, .int c]) (.int 0)= .ok (.int a):=rfl
 have h1:cb (.lst [.int a, .int c]) (.int 1)= .ok (.int c):=rfl
 unfold bq
 refine tM (vq rfl ?_)
 simp only[bQ,jG,List.map_cons,List.map_nil,List.length_cons,List.length_nil,List.replicate,List.cons_append,List.nil_append,Nat.reduceAdd,Nat.reduceSub]
 unfold lN
 by_cases hc:(1000000000000000000:Int)≤a
 ·refine ET (wz (HH (b:=true) ?_ ?_))
  ·simp (implicitDefEqProofs:=false) (disch:=first | omega | decide) only[mj,cY,dj,il,lG,l0,nW,vn,nk,dQ,mr,gU,oI,af,eC,e2,eNew,iV,aK,cP,wx,wj,y6,i0,uE,uK,D5,uA,vh,uw,qe,Bn,b2,oC,mK,vE,k8,k9,fJ,nList,aI,aj,tS,n_,j7,g6,eE,jr,oq,gQ,pY,nL,zr,Ei,zE,BU,mS,tI,yb,ju,jA,tF,oM,kx,cInt,cStr,p6,fg,nX,dz,r9,pK,aJ,fS,b_,fU,iZ,iF,jI,D.atom,tyName,R.aH,R.fV,List.map_cons,List.map_nil,List.map_append,List.set_cons_zero,List.set_cons_succ,List.getElem?_cons_zero,List.getElem?_cons_succ,List.length_cons,List.length_nil,List.nil_append,List.cons_append,List.append_nil,List.length_map,List.length_append,List.replicate,Nat.reduceAdd,Nat.reduceSub,Nat.zero_add,decide_true,decide_false,Nat.lt_add_one,Nat.reduceLT,Nat.reduceLeDiff,Nat.reduceEqDiff,if_true,if_false,Bool.false_eq_true,ite_true,ite_false,Bool.true_or,Bool.or_true,Bool.true_and,Bool.and_true,beq_self_eq_true,down,bX,res,kJ,bQ,gr,kX,jk,u7,oF,vp,Option.map_some,Option.bind_some,fG,cG,pW,j5,iu,jE,bH,decide_eq_true_eq,Int.reduceToNat,e,h0]
   simp [hc]
  rw[if_pos rfl]
  refine bu (bY (by simp only[List.length_cons,List.length_nil,List.length_set];omega) (xc (d:= .int (a % m)) ?_ rfl ⟨_,rfl,?_⟩))
  ·simp (implicitDefEqProofs:=false) (disch:=first | omega | decide) only[mj,cY,dj,il,lG,l0,nW,vn,nk,dQ,mr,gU,oI,af,eC,e2,eNew,iV,aK,cP,wx,wj,y6,i0,uE,uK,D5,uA,vh,uw,qe,Bn,b2,oC,mK,vE,k8,k9,fJ,nList,aI,aj,tS,n_,j7,g6,eE,jr,oq,gQ,pY,nL,zr,Ei,zE,BU,mS,tI,yb,ju,jA,tF,oM,kx,cInt,cStr,p6,fg,nX,dz,r9,pK,aJ,fS,b_,fU,iZ,iF,jI,D.atom,tyName,R.aH,R.fV,List.map_cons,List.map_nil,List.map_append,List.set_cons_zero,List.set_cons_succ,List.getElem?_cons_zero,List.getElem?_cons_succ,List.length_cons,List.length_nil,List.nil_append,List.cons_append,List.append_nil,List.length_map,List.length_append,List.replicate,Nat.reduceAdd,Nat.reduceSub,Nat.zero_add,decide_true,decide_false,Nat.lt_add_one,Nat.reduceLT,Nat.reduceLeDiff,Nat.reduceEqDiff,if_true,if_false,Bool.false_eq_true,ite_true,ite_false,Bool.true_or,Bool.or_true,Bool.true_and,Bool.and_true,beq_self_eq_true,down,bX,res,kJ,bQ,gr,kX,jk,u7,oF,vp,Option.map_some,Option.bind_some,fG,cG,pW,j5,iu,jE,bH,decide_eq_true_eq,Int.reduceToNat,e,h0]
  simp only[List.set_cons_succ,List.set_cons_zero]
  refine bu (Ef (xc (d:= .int (a / m)) ?_ rfl (w_var (v:= .loc k) rfl (dP (d:= .int 0) rfl ⟨_,k,0,_,0,rfl,rfl,rfl,e,rfl,_,rfl,?_⟩))))
  ·refine ax (a:= .int a) (b:= .int m) ?_ rfl (xr hm hm2)
   simp (implicitDefEqProofs:=false) (disch:=first | omega | decide) only[mj,cY,dj,il,lG,l0,nW,vn,nk,dQ,mr,gU,oI,af,eC,e2,eNew,iV,aK,cP,wx,wj,y6,i0,uE,uK,D5,uA,vh,uw,qe,Bn,b2,oC,mK,vE,k8,k9,fJ,nList,aI,aj,tS,n_,j7,g6,eE,jr,oq,gQ,pY,nL,zr,Ei,zE,BU,mS,tI,yb,ju,jA,tF,oM,kx,cInt,cStr,p6,fg,nX,dz,r9,pK,aJ,fS,b_,fU,iZ,iF,jI,D.atom,tyName,R.aH,R.fV,List.map_cons,List.map_nil,List.map_append,List.set_cons_zero,List.set_cons_succ,List.getElem?_cons_zero,List.getElem?_cons_succ,List.length_cons,List.length_nil,List.nil_append,List.cons_append,List.append_nil,List.length_map,List.length_append,List.replicate,Nat.reduceAdd,Nat.reduceSub,Nat.zero_add,decide_true,decide_false,Nat.lt_add_one,Nat.reduceLT,Nat.reduceLeDiff,Nat.reduceEqDiff,if_true,if_false,Bool.false_eq_true,ite_true,ite_false,Bool.true_or,Bool.or_true,Bool.true_and,Bool.and_true,beq_self_eq_true,down,bX,res,kJ,bQ,gr,kX,jk,u7,oF,vp,Option.map_some,Option.bind_some,fG,cG,pW,j5,iu,jE,bH,decide_eq_true_eq,Int.reduceToNat,e,h0]
  refine gu (dP (d:= .int (a % m)) rfl ⟨_,rfl,_,rfl,?_⟩)
  exact fin _ _ (Int.emod_nonneg _ (by omega)) (Int.emod_lt_of_pos _ hm) ⟨⟨hL.set _ (pN _),_,_,mY e⟩,List.length_set,fun j hj=>List.getElem?_set_ne (Ne.symm hj)⟩
 ·refine bu (wz (HH (b:=false) ?_ ?_))
  ·simp (implicitDefEqProofs:=false) (disch:=first | omega | decide) only[mj,cY,dj,il,lG,l0,nW,vn,nk,dQ,mr,gU,oI,af,eC,e2,eNew,iV,aK,cP,wx,wj,y6,i0,uE,uK,D5,uA,vh,uw,qe,Bn,b2,oC,mK,vE,k8,k9,fJ,nList,aI,aj,tS,n_,j7,g6,eE,jr,oq,gQ,pY,nL,zr,Ei,zE,BU,mS,tI,yb,ju,jA,tF,oM,kx,cInt,cStr,p6,fg,nX,dz,r9,pK,aJ,fS,b_,fU,iZ,iF,jI,D.atom,tyName,R.aH,R.fV,List.map_cons,List.map_nil,List.map_append,List.set_cons_zero,List.set_cons_succ,List.getElem?_cons_zero,List.getElem?_cons_succ,List.length_cons,List.length_nil,List.nil_append,List.cons_append,List.append_nil,List.length_map,List.length_append,List.replicate,Nat.reduceAdd,Nat.reduceSub,Nat.zero_add,decide_true,decide_false,Nat.lt_add_one,Nat.reduceLT,Nat.reduceLeDiff,Nat.reduceEqDiff,if_true,if_false,Bool.false_eq_true,ite_true,ite_false,Bool.true_or,Bool.or_true,Bool.true_and,Bool.and_true,beq_self_eq_true,down,bX,res,kJ,bQ,gr,kX,jk,u7,oF,vp,Option.map_some,Option.bind_some,fG,cG,pW,j5,iu,jE,bH,decide_eq_true_eq,Int.reduceToNat,e,h0]
   simp [hc]
  rw[if_neg (by decide)]
  refine ph ⟨_,rfl,?_⟩
  refine bu (Ef (xc (d:= .int ((c*48271+11) % 2147483647)) ?_ rfl (w_var (v:= .loc k) rfl (dP (d:= .int 1) rfl ⟨_,k,1,_,1,rfl,rfl,rfl,e,rfl,_,rfl,?_⟩))))
  ·simp (implicitDefEqProofs:=false) (disch:=first | omega | decide) only[mj,cY,dj,il,lG,l0,nW,vn,nk,dQ,mr,gU,oI,af,eC,e2,eNew,iV,aK,cP,wx,wj,y6,i0,uE,uK,D5,uA,vh,uw,qe,Bn,b2,oC,mK,vE,k8,k9,fJ,nList,aI,aj,tS,n_,j7,g6,eE,jr,oq,gQ,pY,nL,zr,Ei,zE,BU,mS,tI,yb,ju,jA,tF,oM,kx,cInt,cStr,p6,fg,nX,dz,r9,pK,aJ,fS,b_,fU,iZ,iF,jI,D.atom,tyName,R.aH,R.fV,List.map_cons,List.map_nil,List.map_append,List.set_cons_zero,List.set_cons_succ,List.getElem?_cons_zero,List.getElem?_cons_succ,List.length_cons,List.length_nil,List.nil_append,List.cons_append,List.append_nil,List.length_map,List.length_append,List.replicate,Nat.reduceAdd,Nat.reduceSub,Nat.zero_add,decide_true,decide_false,Nat.lt_add_one,Nat.reduceLT,Nat.reduceLeDiff,Nat.reduceEqDiff,if_true,if_false,Bool.false_eq_true,ite_true,ite_false,Bool.true_or,Bool.or_true,Bool.true_and,Bool.and_true,beq_self_eq_true,down,bX,res,kJ,bQ,gr,kX,jk,u7,oF,vp,Option.map_some,Option.bind_some,fG,cG,pW,j5,iu,jE,bH,decide_eq_true_eq,Int.reduceToNat,e,h1]
  have hx1:0≤(c*48271+11) % 2147483647:=Int.emod_nonneg _ (by omega)
  have hx2:(c*48271+11) % 2147483647 < 2147483647:=Int.emod_lt_of_pos _ (by omega)
  generalize (c*48271+11) % 2147483647=x at hx1 hx2
  simp only[List.set_cons_succ,List.set_cons_zero]
  have e1:(S.set k (.lst [.int a, .int x]))[k]? =some (.lst [.int a, .int x]):=mY e
  have v1:Ev k S (S.set k (.lst [.int a, .int x])):=⟨⟨hL.set _ (pN _),_,_,e1⟩,List.length_set,fun j hj=>List.getElem?_set_ne (Ne.symm hj)⟩
  generalize S.set k (.lst [.int a, .int x])=S1 at e1 v1
  refine bu (bY (by simp only[List.length_cons,List.length_nil,List.length_set];omega) (xc (d:= .int (x*x % 2147483629)) ?_ rfl ⟨_,rfl,?_⟩))
  ·have h2:cb (.lst [.int a, .int x]) (.int 1)= .ok (.int x):=rfl
   simp (implicitDefEqProofs:=false) (disch:=first | omega | decide) only[mj,cY,dj,il,lG,l0,nW,vn,nk,dQ,mr,gU,oI,af,eC,e2,eNew,iV,aK,cP,wx,wj,y6,i0,uE,uK,D5,uA,vh,uw,qe,Bn,b2,oC,mK,vE,k8,k9,fJ,nList,aI,aj,tS,n_,j7,g6,eE,jr,oq,gQ,pY,nL,zr,Ei,zE,BU,mS,tI,yb,ju,jA,tF,oM,kx,cInt,cStr,p6,fg,nX,dz,r9,pK,aJ,fS,b_,fU,iZ,iF,jI,D.atom,tyName,R.aH,R.fV,List.map_cons,List.map_nil,List.map_append,List.set_cons_zero,List.set_cons_succ,List.getElem?_cons_zero,List.getElem?_cons_succ,List.length_cons,List.length_nil,List.nil_append,List.cons_append,List.append_nil,List.length_map,List.length_append,List.replicate,Nat.reduceAdd,Nat.reduceSub,Nat.zero_add,decide_true,decide_false,Nat.lt_add_one,Nat.reduceLT,Nat.reduceLeDiff,Nat.reduceEqDiff,if_true,if_false,Bool.false_eq_true,ite_true,ite_false,Bool.true_or,Bool.or_true,Bool.true_and,Bool.and_true,beq_self_eq_true,down,bX,res,kJ,bQ,gr,kX,jk,u7,oF,vp,Option.map_some,Option.bind_some,fG,cG,pW,j5,iu,jE,bH,decide_eq_true_eq,Int.reduceToNat,e1,h2]
  simp only[List.set_cons_succ,List.set_cons_zero]
  generalize x*x % 2147483629=y
  refine gu (dP (d:= .int (y*69621 % 2147483587 / 8 % m)) ?_ ⟨_,rfl,?_⟩)
  ·refine ax (a:= .int (y*69621 % 2147483587 / 8)) (b:= .int m) (ax (a:= .int (y*69621 % 2147483587)) (b:= .int 8) ?_ rfl (xr (by omega) (by decide))) rfl (wK hm)
   simp (implicitDefEqProofs:=false) (disch:=first | omega | decide) only[mj,cY,dj,il,lG,l0,nW,vn,nk,dQ,mr,gU,oI,af,eC,e2,eNew,iV,aK,cP,wx,wj,y6,i0,uE,uK,D5,uA,vh,uw,qe,Bn,b2,oC,mK,vE,k8,k9,fJ,nList,aI,aj,tS,n_,j7,g6,eE,jr,oq,gQ,pY,nL,zr,Ei,zE,BU,mS,tI,yb,ju,jA,tF,oM,kx,cInt,cStr,p6,fg,nX,dz,r9,pK,aJ,fS,b_,fU,iZ,iF,jI,D.atom,tyName,R.aH,R.fV,List.map_cons,List.map_nil,List.map_append,List.set_cons_zero,List.set_cons_succ,List.getElem?_cons_zero,List.getElem?_cons_succ,List.length_cons,List.length_nil,List.nil_append,List.cons_append,List.append_nil,List.length_map,List.length_append,List.replicate,Nat.reduceAdd,Nat.reduceSub,Nat.zero_add,decide_true,decide_false,Nat.lt_add_one,Nat.reduceLT,Nat.reduceLeDiff,Nat.reduceEqDiff,if_true,if_false,Bool.false_eq_true,ite_true,ite_false,Bool.true_or,Bool.or_true,Bool.true_and,Bool.and_true,beq_self_eq_true,down,bX,res,kJ,bQ,gr,kX,jk,u7,oF,vp,Option.map_some,Option.bind_some,fG,cG,pW,j5,iu,jE,bH,decide_eq_true_eq,Int.reduceToNat]
  exact fin _ _ (Int.emod_nonneg _ (by omega)) (Int.emod_lt_of_pos _ hm) v1
section
variable {S:aN} {δ:DE} {k i:Nat}
theorem draw{Q:V3→aN→Prop}{f:FD}{m:Int}(hv:δ[i]? =some (some (.loc k)))(p:tG k S)(hf:f (down δ)= .ok (.int m))(hm:0 < m)(hm2:m < 1000000)
 (h:∀(r:Int) S1,0≤r→r < m→Ev k S S1→Q (.d (.int r)) S1):W3 (dc bq (aA (cF i) (aA (xP f) cR)) δ S) Q:=
 eD (aG (w_var hv (aG (dP hf (cJ (sY p hm (qX hm hm2) h))))))
theorem A1{Q:V3→aN→Prop}{m:Int}(hv:δ[i]? =some (some (.loc k)))(p:tG k S)(hm:0 < m)(hm2:m < 1000000)
 (h:∀(r:Nat) S1,1≤r→(r:Int)≤m→Ev k S S1→Q (.d (.int r)) S1):W3 (x2 eE (xP (eC (.int 1))) (dc bq (aA (cF i) (aA (xP (eC (.int m))) cR))) δ S) Q:=
 DZ (dP rfl (draw hv p rfl hm hm2 fun r S1 h1 h2 v=>⟨_,_, .int ((1+r).toNat:Nat),rfl,rfl,by rw[Int.toNat_of_nonneg (by omega)];rfl,h _ S1 (by omega) (by omega) v⟩))
end
theorem x9(c:Int){S:aN}{Q:V3→aN→Prop}(hS:Flat S)(h:∀S1,tG S.length S1→S1.length=S.length+1→(∀j,j < S.length→S1[j]? =S[j]?)→Q (.loc S.length) S1):W3 (eL [.d (.int c)] S) Q:=by
 have hz:sizeLine=16777216:=sizeLine_eq
 unfold eL
 refine vq rfl ?_
 simp only[bQ,jK,List.map_cons,List.map_nil,List.length_cons,List.length_nil,List.replicate,List.cons_append,List.nil_append,Nat.reduceAdd,Nat.reduceSub]
 unfold lI
 refine gu (jn (ds:=[.int (if c < 0 then -c else c), .int ((c % 2147483647+1)*742938285 % 2147483647)]) ?_ ⟨_,rfl,?_⟩)
 ·simp (implicitDefEqProofs:=false) (disch:=first | omega | decide) only[mj,cY,dj,il,lG,l0,nW,vn,nk,dQ,mr,gU,oI,af,eC,e2,eNew,iV,aK,cP,wx,wj,y6,i0,uE,uK,D5,uA,vh,uw,qe,Bn,b2,oC,mK,vE,k8,k9,fJ,nList,aI,aj,tS,n_,j7,g6,eE,jr,oq,gQ,pY,nL,zr,Ei,zE,BU,mS,tI,yb,ju,jA,tF,oM,kx,cInt,cStr,p6,fg,nX,dz,r9,pK,aJ,fS,b_,fU,iZ,iF,jI,D.atom,tyName,R.aH,R.fV,List.map_cons,List.map_nil,List.map_append,List.set_cons_zero,List.set_cons_succ,List.getElem?_cons_zero,List.getElem?_cons_succ,List.length_cons,List.length_nil,List.nil_append,List.cons_append,List.append_nil,List.length_map,List.length_append,List.replicate,Nat.reduceAdd,Nat.reduceSub,Nat.zero_add,decide_true,decide_false,Nat.lt_add_one,Nat.reduceLT,Nat.reduceLeDiff,Nat.reduceEqDiff,if_true,if_false,Bool.false_eq_true,ite_true,ite_false,Bool.true_or,Bool.or_true,Bool.true_and,Bool.and_true,beq_self_eq_true,down,bX,res,kJ,bQ,gr,kX,jk,u7,oF,vp,Option.map_some,Option.bind_some,fG,cG,pW,j5,iu,jE,bH,decide_eq_true_eq,Int.reduceToNat,cAbs]
 refine h _ ⟨hS.push (pN _),_,_,by rw[List.getElem?_append_right (Nat.le_refl _),Nat.sub_self];rfl⟩ (by simp) fun j hj=>List.getElem?_append_left hj
end K16
end
section
set_option maxRecDepth 100000
set_option maxHeartbeats 4000000
namespace K16
open PySem PySem.Spec PyProof.Rows L2 L3 MT
theorem yL{a:D}{r:List D}:cb (.tup (a ::r)) (.int 0)= .ok a:=qr (by rw[j3 (by omega) (by simp)];rfl)
theorem A0{a b:D}{r:List D}:cb (.tup (a ::b ::r)) (.int 1)= .ok b:=qr (by rw[j3 (by omega) (by simp)];rfl)
theorem Kq{a b c:D}{r:List D}:cb (.tup (a ::b ::c ::r)) (.int 2)= .ok c:=qr (by rw[j3 (by omega) (by simp)];rfl)
theorem xD{N:Nat}{a b c:M}:fR [.tup [mI N a,mI N b,mI N c]]= .ok (mI N fun p=>(a p && b p) || (a p && c p) || (b p && c p)):=by
 unfold fR rF
 refine dm (cI ?_)
 exact ax (ax (ax (ax rfl rfl yL) (ax rfl rfl A0) (qf N a b)) (ax (ax rfl rfl yL) (ax rfl rfl Kq) (qf N a c)) (tV N _ _)) (ax (ax rfl rfl A0) (ax rfl rfl Kq) (qf N b c)) (tV N _ _)
theorem HM(k j:Nat)(hk:k≤4)(hj:j≤4):jA (.str (kS k)) (.str (kS j))= .ok (.bl (decide (k=j))):=by
 show R.ok (D.bl (kS k==kS j))=_
 congr 2
 revert hk hj
 have:∀a∈List.range 5,∀b∈List.range 5,(kS a==kS b)=decide (a=b):=by decide+kernel
 intro hk hj
 exact this k (by rw[List.mem_range];omega) j (by rw[List.mem_range];omega)
theorem Dr{N kd:Nat}{xs:List M}(hk:kd≤4)(hx:xs.length=ar kd):fQ [.str (kS kd), .tup (xs.map (mI N)),mI N one]= .ok (mI N fun p=>gv kd (xs.map (· p))):=by
 unfold fQ n9
 have q:∀j,j≤4→b2 jA (af 0) (eC (.str (kS j))) (cY km [.str (kS kd), .tup (xs.map (mI N)),mI N one])= .ok (decide (kd=j)):=fun j hj=>iW (a:= .str (kS kd)) (b:= .str (kS j)) rfl rfl (HM kd j hk hj)
 have q0:=q 0 (by omega)
 have q1:=q 1 (by omega)
 have q2:=q 2 (by omega)
 have q3:=q 3 (by omega)
 match kd,hk,xs,hx with
 | 0,_,[a],_=>
   refine dm (NT.j1 (n5 q0 (cI (ax (a:=mI N one) (b:=mI N a) rfl (ax rfl rfl yL) (vb N a)))))
 | 1,_,[a,b],_=>
   refine dm (bA (iB q0 rfl) (NT.j1 (n5 q1 (cI (ax (ax rfl rfl yL) (ax rfl rfl A0) (qf N a b))))))
 | 2,_,[a,b],_=>
   refine dm (bA (iB q0 rfl) (bA (iB q1 rfl) (NT.j1 (n5 q2 (cI (ax (ax rfl rfl yL) (ax rfl rfl A0) (tV N a b)))))))
 | 3,_,[a,b],_=>
   refine dm (bA (iB q0 rfl) (bA (iB q1 rfl) (bA (iB q2 rfl) (NT.j1 (n5 q3 (cI (ax (ax rfl rfl yL) (ax rfl rfl A0) (xl N a b))))))))
 | 4,_,[a,b,c],_=>
   refine dm (bA (iB q0 rfl) (bA (iB q1 rfl) (bA (iB q2 rfl) (bA (iB q3 rfl) (cI (aM (ds:=[.tup [mI N a,mI N b,mI N c]]) rfl xD))))))
theorem D9{N:Nat}{ws:List M}{ns:List Nat}(hn:∀n∈ns,n < ws.length)(hl:ns.length < 1000):eK [.lst (ws.map (mI N)), .tup (ns.map nI)]= .ok (.tup ((ns.map (iY ws)).map (mI N))):=by
 have hz:sizeLine=16777216:=sizeLine_eq
 unfold eK pk
 refine dm (cI (aM (ds:=[.lst ((ns.map (iY ws)).map (mI N))]) (ay (eX (eu (ds:=ns.map nI) (si rfl) (by rw[List.length_map];omega) ?_)) rfl) rfl))
 rw[List.map_map]
 exact NT.cO nI _ fun n hn'=>⟨[.val (nI n), .val (.lst (ws.map (mI N)))],rfl,rfl,ax (a:= .lst (ws.map (mI N))) (b:=nI n) rfl rfl (Ai (hn n hn'))⟩
noncomputable def vD(N:Nat)(S:aN)(insD bitsD badD:D)(a5 a6 a7:Option V3):DE:=[some (.d insD),some (.d bitsD),some (.d (mI N one)),some (.d badD),some (.loc S.length),a5,a6,a7]
theorem AF{N:Nat}{S:aN}{insD bitsD:D}{bad:List Int}{a5 a7:Option V3}{b:M}{ws:List M}(hl:ws.length < 10000) :
 W3 (f9 (vD N S insD bitsD (.tup (bad.map .int)) a5 (some (.d (mI N b))) a7) (S++[.lst (ws.map (mI N))])) fun o S1=>o= .nx (vD N S insD bitsD (.tup (bad.map .int)) a5 (some (.d (mI N b))) a7)∧S1=S++[SO.lst ((ws++[fun p=>b p !=bad.contains (ws.length:Int)]).map (mI N))]:=by
 have hz:sizeLine=16777216:=sizeLine_eq
 unfold f9
 refine kM (k:=S.length) rfl ⟨_,bO _ _⟩ (xc (d:=mI N fun p=>b p !=bad.contains (ws.length:Int)) ?_ rfl ⟨_,_,rfl,bO _ _,by rw[List.length_map];omega,rfl,?_⟩)
 ·have h4:(bX (S++[.lst (ws.map (mI N))]) (vD N S insD bitsD (.tup (bad.map .int)) a5 (some (.d (mI N b))) a7))[4]? =some (.val (.lst (ws.map (mI N)))):=by
   unfold bX vD
   show some (match res (S++[.lst (ws.map (mI N))]) (.loc S.length) with | some d=>Sl.val d | none=> .un)=_
   unfold res
   rw[bO]
  refine sf (b:=bad.contains (ws.length:Int)) (iW (a:= .int ws.length) (b:= .tup (bad.map .int)) (aM (ds:=[.lst (ws.map (mI N))]) (ay (by unfold af;rw [h4]) rfl) (by rw[lh,List.length_map])) rfl (o9 _ _)) ?_
  rw[←Bl]
  rfl
 ·rw[gg,List.map_append];rfl
theorem uU{N:Nat}{S:aN}{bD:D}{ins:List (Str × Nat)}{bits:List M}{bad:List Int}(hB:bD= .lst (bits.map (mI N))∨bD= .tup (bits.map (mI N)))(hb:bits.length=ins.length)(hi:ins.length < 100)(hw:∀x∈ins,x.2 < 100){Q:V3→aN→Prop}
 (h:Q (.loc S.length) (S++[.lst ((cT ins bits bad ins.length).map (mI N))])) :
 W3 (c_ [.d (.lst (ins.map inD)), .d bD, .d (mI N one), .d (.tup (bad.map .int))] S) Q:=by
 have hz:sizeLine=16777216:=sizeLine_eq
 unfold c_
 refine vq rfl ?_
 simp only[bQ,fH,List.map_cons,List.map_nil,List.length_cons,List.length_nil,List.replicate,List.cons_append,List.nil_append,Nat.reduceAdd,Nat.reduceSub]
 unfold gW
 refine bu (bY (by simp only[List.length_cons,List.length_nil,List.length_set];omega) (jn (ds:=[]) rfl ⟨_,rfl,?_⟩))
 simp only[List.set_cons_succ,List.set_cons_zero]
 refine bu (gO (k7 (ds:=dO (bits.map (mI N))) (by rcases hB with rfl | rfl <;> rfl) ?_))
 have big:∀i,i≤ins.length→(cT ins bits bad i).length≤100*i:=by
  intro i hi'
  induction i with
  | zero=>simp [cT]
  | succ i ih=>
    have ih:=ih (by omega)
    have h1:ins[i]? =some ins[i]:=List.getElem?_eq_getElem (by omega)
    have h2:bits[i]? =some bits[i]:=List.getElem?_eq_getElem (by omega)
    unfold cT
    rw[h1,h2]
    show(fN bad bits[i] ins[i].2 (cT ins bits bad i)).length≤_
    rw[fP]
    have:=hw ins[i] (List.getElem_mem _)
    omega
 refine(cz (fun i δ S2=>(∃a b c,δ=vD N S (.lst (ins.map inD)) bD (.tup (bad.map .int)) a b c)∧S2=S++[SO.lst ((cT ins bits bad i).map (mI N))])
  ⟨⟨_,_,_,rfl⟩,rfl⟩ ?_).mono fun o S2 ⟨δ2,e2',⟨a,b,c,hδ⟩,hS⟩=>⟨δ2,e2',?_⟩
 ·rintro i v δ S2 hv ⟨⟨a,b,c,rfl⟩,rfl⟩
  obtain⟨d,hd,rfl⟩:=se hv
  rw[List.getElem?_map] at hd
  have hib:i < bits.length:=by
   have:=(List.getElem?_eq_some_iff.mp hv).1
   simpa [dO] using this
  have h1:ins[i]? =some ins[i]:=List.getElem?_eq_getElem (by omega)
  have h2:bits[i]? =some bits[i]:=List.getElem?_eq_getElem hib
  rw[h2] at hd
  cases hd
  refine⟨vD N S (.lst (ins.map inD)) bD (.tup (bad.map .int)) (some (.d (.int i))) (some (.d (mI N bits[i]))) c,rfl,?_⟩
  unfold i3
  have hwi:=hw ins[i] (List.getElem_mem _)
  refine gO (k7 (d9 (n:=ins[i].2) ?_ (by omega)) ?_)
  ·refine ax (a:=inD ins[i]) (b:= .int 1) (ax (a:= .lst (ins.map inD)) (b:= .int i) rfl rfl (pB ?_)) rfl rfl
   rw[j3 (by omega) (by rw[List.length_map,Int.toNat_natCast];omega)]
   simp
  refine(cz (fun j δ S3=>(∃c,δ=vD N S (.lst (ins.map inD)) bD (.tup (bad.map .int)) (some (.d (.int i))) (some (.d (mI N bits[i]))) c)∧S3=S++[SO.lst ((fN bad bits[i] j (cT ins bits bad i)).map (mI N))])
   ⟨⟨_,rfl⟩,rfl⟩ ?_).mono fun o S3 ⟨δ3,e3,⟨c3,hδ3⟩,hS3⟩=>⟨δ3,e3,⟨_,_,c3,hδ3⟩,?_⟩
  ·rintro j v δ S3 hv ⟨⟨c3,rfl⟩,rfl⟩
   refine⟨_,rfl,?_⟩
   have hj:j < ins[i].2:=by
    have:=(List.getElem?_eq_some_iff.mp hv).1
    rwa [List.length_map,cc,List.length_map,List.length_range] at this
   refine(AF ?_).mono fun o S4 ⟨e4,e5⟩=>⟨_,e4,⟨_,rfl⟩,e5⟩
   rw[fP]
   have:=big i (by omega)
   omega
  ·rw[hS3,List.length_map,cc,List.length_map,List.length_range]
   show _=S++[SO.lst ((match ins[i]?,bits[i]? with | some x,some b=>fN bad b x.2 (cT ins bits bad i) | _,_=>cT ins bits bad i).map (mI N))]
   rw[h1,h2]
 have hlen:((dO (bits.map (mI N))).map V3.d).length=ins.length:=by simp [dO,hb]
 rw[hlen] at hS
 subst hδ hS
 exact gu (w_var rfl ⟨_,rfl,h⟩)
section
variable {N:Nat} {ins:List (Str × Nat)} {gs:List Gt} {os:List (Str × List Nat)} {bits:List M} {turned bad:List Int}
noncomputable def uq(N:Nat)(S:aN)(nt bitsD tD bD:D)(a6 a7 a8:Option V3):DE:=[some (.d nt),some (.d bitsD),some (.d (mI N one)),some (.d tD),some (.d bD),some (.loc S.length),a6,a7,a8]
theorem yP{S:aN}{nt bitsD bD:D}{a8:Option V3}{g:Gt}{i:Nat}{ws:List M}(hg:nA ws.length g)(hl:ws.length < 20000) :
 W3 (iH (uq N S nt bitsD (.tup (turned.map .int)) bD (some (.d (.int i))) (some (.d (gp g))) a8) (S++[.lst (ws.map (mI N))])) fun o S1=>(∃c,o= .nx (uq N S nt bitsD (.tup (turned.map .int)) bD (some (.d (.int i))) (some (.d (gp g))) c))∧S1=S++[SO.lst ((ws++[fun p=>gF g ws p !=turned.contains (i:Int)]).map (mI N))]:=by
 have hz:sizeLine=16777216:=sizeLine_eq
 have ha:=w9 g.1
 unfold iH
 refine bu (bY (by unfold uq;simp only[List.length_cons,List.length_nil];omega) (xc (d:=mI N (gF g ws)) ?_ rfl ⟨_,rfl,?_⟩))
 ·have h5:(bX (S++[.lst (ws.map (mI N))]) (uq N S nt bitsD (.tup (turned.map .int)) bD (some (.d (.int i))) (some (.d (gp g))) a8))[5]? =some (.val (.lst (ws.map (mI N)))):=by
   unfold bX uq
   show some (match res (S++[.lst (ws.map (mI N))]) (.loc S.length) with | some d=>Sl.val d | none=> .un)=_
   unfold res
   rw[bO]
  refine(aM (ds:=[.str (kS g.1), .tup ((g.2.1.map (iY ws)).map (mI N)),mI N one]) (ay (ax (a:=gp g) (b:= .int 0) rfl rfl rfl) (ay ?_ (ay rfl rfl))) (Dr hg.1 (by rw[List.length_map];exact hg.2.1))).trans ?_
  ·exact aM (ds:=[.lst (ws.map (mI N)), .tup (g.2.1.map nI)]) (ay (by unfold af;rw [h5]) (ay (ax (a:=gp g) (b:= .int 1) rfl rfl rfl) rfl)) (D9 hg.2.2 (by rw[hg.2.1];omega))
  ·have:(fun p=>gv g.1 ((g.2.1.map (iY ws)).map (· p)))=gF g ws:=by funext p;unfold gF;rw [List.map_map];rfl
   rw[this]
 ·show W3 (lg 5 _ (uq N S nt bitsD (.tup (turned.map .int)) bD (some (.d (.int i))) (some (.d (gp g))) (some (.d (mI N (gF g ws))))) _) _
  refine kM (k:=S.length) rfl ⟨_,bO _ _⟩ (dP (d:=mI N fun p=>gF g ws p !=turned.contains (i:Int)) ?_ ⟨_,_,rfl,bO _ _,by rw[List.length_map];omega,⟨_,rfl⟩,?_⟩)
  ·refine sf (b:=turned.contains (i:Int)) (iW (a:= .int i) (b:= .tup (turned.map .int)) rfl rfl (o9 _ _)) ?_
   rw[←Bl]
   rfl
  ·rw[gg,List.map_append];rfl
theorem BF{S:aN}{bD:D}(hB:bD= .lst (bits.map (mI N))∨bD= .tup (bits.map (mI N)))(NO:g8 ins gs os)(hb:bits.length=ins.length)(hS:wA S){Q:V3→aN→Prop}(h:Q (.d (.lst ((jm ins gs bits turned bad).map (mI N)))) S) :
 W3 (fB [.d (bz ins gs os), .d bD, .d (mI N one), .d (.tup (turned.map .int)), .d (.tup (bad.map .int))] S) Q:=by
 have hz:sizeLine=16777216:=sizeLine_eq
 unfold fB
 refine mq hS (vq rfl ?_)
 simp only[bQ,hX,List.map_cons,List.map_nil,List.length_cons,List.length_nil,List.replicate,List.cons_append,List.nil_append,Nat.reduceAdd,Nat.reduceSub]
 unfold jF
 refine bu <| bY (by simp only[List.length_cons,List.length_nil,List.length_set];omega) <| eD <| aG <| dP (d:= .lst (ins.map inD)) rfl <| aG <| dP (d:=bD) rfl <| aG <| dP (d:=mI N one) rfl <| aG <| dP (d:= .tup (bad.map .int)) rfl <| cJ <| uU hB hb NO.hi NO.hw ⟨_,rfl,?_⟩
 simp only[List.set_cons_succ,List.set_cons_zero]
 have hwd:=tm NO.hw
 have hN:=NO.hi
 have hG:=NO.hg
 refine bu (gO (k7 (ds:=dO (gs.map gp)) rfl ?_))
 refine(cz (fun i δ S2=>(∃a b c,δ=uq N S (bz ins gs os) bD (.tup (turned.map .int)) (.tup (bad.map .int)) a b c)∧S2=S++[SO.lst ((kK gs turned (cT ins bits bad ins.length) i).map (mI N))])
  ⟨⟨_,_,_,rfl⟩,rfl⟩ ?_).mono fun o S2 ⟨δ2,e2',⟨a,b,c,hδ⟩,hS2⟩=>⟨δ2,e2',?_⟩
 ·rintro i v δ S2 hv ⟨⟨a,b,c,rfl⟩,rfl⟩
  obtain⟨d,hd,rfl⟩:=se hv
  rw[List.getElem?_map] at hd
  cases q:gs[i]? with
  | none=>rw [q] at hd;cases hd
  | some g=>
    rw[q] at hd
    cases hd
    have hi:i < gs.length:=(List.getElem?_eq_some_iff.mp q).1
    have hl:(kK gs turned (cT ins bits bad ins.length) i).length=ni ins+i:=by rw[k3 _ (by omega),iL hb _ (Nat.le_refl _),List.take_length]
    refine⟨uq N S (bz ins gs os) bD (.tup (turned.map .int)) (.tup (bad.map .int)) (some (.d (.int i))) (some (.d (gp g))) c,rfl,?_⟩
    refine(yP (by rw[hl];exact NO.g i g q) (by rw[hl];omega)).mono fun o S4 ⟨⟨c4,e4⟩,e5⟩=>⟨_,e4,⟨_,_,_,rfl⟩,?_⟩
    rw[e5]
    show _=S++[SO.lst ((match gs[i]? with | some g=>kK gs turned (cT ins bits bad ins.length) i++[fun p=>gF g (kK gs turned (cT ins bits bad ins.length) i) p !=turned.contains (i:Int)] | none=>kK gs turned (cT ins bits bad ins.length) i).map (mI N))]
    rw[q]
 have hlen:((dO (gs.map gp)).map V3.d).length=gs.length:=by simp [dO]
 rw[hlen] at hS2
 subst hδ hS2
 exact gu (w_var rfl ⟨_,rfl,by unfold eO;exact decide_eq_true (Nat.le_refl _),⟨_,rfl⟩,_,by unfold res;rw [bO];rfl,h⟩)
noncomputable def l9(N:Nat)(os:List (Str × List Nat))(ws:List M):List D:=os.map fun x=> .tup ((tell ws x).map (mI N))
theorem Cs{S:aN}{ws:List M}(hO:os.length < 1000)(ho:∀x∈os,x.2.length < 1000∧∀w∈x.2,w < ws.length)(hS:wA S){Q:V3→aN→Prop}(h:Q (.d (.lst (l9 N os ws))) S) :
 W3 (f_ [.d (bz ins gs os), .d (.lst (ws.map (mI N)))] S) Q:=by
 have hz:sizeLine=16777216:=sizeLine_eq
 unfold f_
 refine mq hS (vq rfl ?_)
 simp only[bQ,gS,List.map_cons,List.map_nil,List.length_cons,List.length_nil,List.replicate,List.cons_append,List.nil_append,Nat.reduceAdd,Nat.reduceSub]
 unfold kh
 refine gu (jn (ds:=l9 N os ws) ?_ ⟨_,rfl,by unfold eO;exact decide_eq_true (Nat.le_refl _),⟨_,rfl⟩,_,by unfold res;rw [bO],h⟩)
 refine eu (ds:=os.map sI) (iM (ax (a:=bz ins gs os) (b:= .int 2) rfl rfl rfl)) (by rw[List.length_map];omega) ?_
 unfold l9
 refine NT.cO sI _ fun(x:Str × List Nat) hx=>⟨[.val (.str x.1), .val (.tup (x.2.map nI)), .val (.lst (ws.map (mI N)))],rfl,rfl,?_⟩
 exact aM (ds:=[.lst (ws.map (mI N)), .tup (x.2.map nI)]) rfl (D9 (ho x hx).2 (ho x hx).1)
end
end K16
end
section
set_option maxRecDepth 100000
set_option maxHeartbeats 4000000
namespace K16
open PySem PySem.Spec PyProof.Rows L2 L3 MT
noncomputable def r0(xs:List M):M:=fun p=>(zm (xs.map (· p))).1
noncomputable def r1(xs:List M):M:=fun p=>(zm (xs.map (· p))).2
theorem qc{n:Nat}{ds:List D}{δ:av}{j:Int}(h:af 0 δ= .ok (.tup ds))(hl:ds.length=n):b2 jA (aK dz (aj (af 0) aI)) (eC (.int j)) δ= .ok (decide ((n:Int)=j)):=by
 refine iW (a:= .int n) (b:= .int j) (aM (ds:=[.tup ds]) (ay h rfl) ?_) rfl ?_
 ·show R.ok (D.int ds.length)=_
  rw[hl]
 ·show R.ok (D.bl ((n:Int)==j))=_
  congr 2
theorem wa{N:Nat}{xs:List M}(h:1≤xs.length∧xs.length≤3):ie [.tup (xs.map (mI N)),mI N one]= .ok (.tup [mI N (r0 xs),mI N (r1 xs)]):=by
 have hz:sizeLine=16777216:=sizeLine_eq
 unfold ie rE
 match xs,h with
 | [a],_=>
   refine dm (bA (iB (qc (n:=1) rfl rfl) rfl) (bA (fI (d:=mI N a) (sf (qc (n:=1) rfl rfl) (ax (a:= .tup [mI N a]) (b:= .int 0) rfl rfl yL)) (by simp [cY,k5])) (cI ?_)))
   exact cK (ay (ax (a:=mI N one) (b:=mI N a) rfl rfl (vb N a)) (ay rfl rfl)) (by simp;omega)
 | [a,b],_=>
   refine dm (NT.j1 (n5 (qc (n:=2) rfl rfl) (cI ?_)))
   exact cK (ay (ax (a:=mI N one) (b:=mI N fun p=>a p || b p) rfl (ax (ax rfl rfl yL) (ax rfl rfl A0) (tV N a b)) (vb N _)) (ay (ax (ax rfl rfl yL) (ax rfl rfl A0) (qf N a b)) rfl)) (by simp;omega)
 | [a,b,c],_=>
   refine dm (bA (iB (qc (n:=3) rfl rfl) rfl) (bA (fI (d:=mI N fun p=>(a p && b p) || (a p && c p) || (b p && c p)) (sf (qc (n:=3) rfl rfl) (aM (ds:=[.tup [mI N a,mI N b,mI N c]]) rfl xD)) (by simp [cY,k5])) (cI ?_)))
   exact cK (ay (ax (a:=mI N one) (b:=mI N fun p=>(a p && b p) || (a p && c p) || (b p && c p)) rfl rfl (vb N _)) (ay rfl rfl)) (by simp;omega)
theorem EO{N n:Nat}{f:M}:jB [mI N f, .int n]= .ok (.int (if decide (n < N) && f n then 1 else 0)):=by
 unfold jB uv
 refine dm (cI ?_)
 have h:=HA N f n
 show(R.bind (R.bind (R.ok (mI N f)) fun d=>R.bind (R.ok (D.int n)) fun e=>nL d e) fun d=>R.bind (R.ok (D.int 1)) fun e=>zp d e)=_
 exact h
theorem p_{bs:List Bool}(hl:bs.length < 100000):fM [.lst (bs.map bI)]= .ok (.int (B4 bs)):=by
 unfold fM qS
 refine dm (bA (fI (d:= .int 0) rfl (by simp [cY,nS])) ?_)
 obtain⟨δ1,e1,a2,hδ1⟩:=fT (t:=aJ 2) (body:=kN) (ds:=(bs.map bI).reverse)
  (fun i δ=>∃a2,δ=[.val (.lst (bs.map bI)), .val (.int (B4 (bs.drop (bs.length - i)))),a2]) (δ:=[.val (.lst (bs.map bI)), .val (.int 0), .un]) ⟨.un,by simp [B4]⟩ (by
    rintro i d δ hd ⟨a2,rfl⟩
    have hi:i < bs.length:=by
     have:=(List.getElem?_eq_some_iff.mp hd).1
     rwa [List.length_reverse,List.length_map] at this
    rw[List.getElem?_reverse (by rw[List.length_map];exact hi),List.length_map,List.getElem?_map,List.getElem?_eq_getElem (by omega:bs.length - 1 - i < bs.length)] at hd
    cases hd
    have hdr:bs.drop (bs.length - (i+1))=bs[bs.length - 1 - i] ::bs.drop (bs.length - i):=by
     rw[show bs.length - (i+1)=bs.length - 1 - i by omega,List.drop_eq_getElem_cons (by omega:bs.length - 1 - i < bs.length),show bs.length - 1 - i+1=bs.length - i by omega]
    refine⟨_,?_,⟨.val (bI bs[bs.length - 1 - i]),rfl⟩⟩
    have hm:(B4 (bs.drop (bs.length - (i+1))):Int)=(B4 (bs.drop (bs.length - i)):Int)*2+(if bs[bs.length - 1 - i] then 1 else 0):=by
     rw[hdr]
     show(((if bs[bs.length - 1 - i] then 1 else 0)+2*B4 (bs.drop (bs.length - i)):Nat):Int)=_
     cases bs[bs.length - 1 - i] <;> simp <;> omega
    rw[hm]
    generalize (B4 (bs.drop (bs.length - i)):Int)=m
    generalize bs[bs.length - 1 - i]=x
    generalize D.lst (bs.map bI)=y
    rw[show aJ 2 (bI x) [.val y, .val (.int m),a2]= .ok [.val y, .val (.int m), .val (bI x)] from rfl,R.aH]
    unfold kN
    exact fI (ax (a:= .int (m*2)) (b:=bI x) (ax (a:= .int m) (b:= .int 2) rfl rfl (bH _ (.inr ⟨by omega,by omega⟩))) rfl rfl) (by simp))
 refine bA (gn (ds:=(bs.map bI).reverse) rfl e1) ?_
 rw[List.length_reverse,List.length_map,Nat.sub_self,List.drop_zero] at hδ1
 subst hδ1
 exact cI rfl
noncomputable def bx:Nat→List (List Bool)
 | 0=>[[]]
 | c+1=>(bx c).flatMap fun b=>[b++[false],b++[true]]
theorem cq:∀c,(bx c).length=2 ^ c
 | 0=>rfl
 | c+1=>by
   unfold bx
   rw[List.length_flatMap]
   have:(bx c).map (fun b=>[b++[false],b++[true]].length)=(bx c).map fun _=>2:=rfl
   rw[this,List.map_const',List.sum_replicate_nat,cq c]
   omega
theorem ib:∀c,∀b∈bx c,b.length=c
 | 0,b,h=>by unfold bx at h;rw [List.mem_singleton.mp h];rfl
 | c+1,b,h=>by
   unfold bx at h
   obtain⟨a,ha,hb⟩:=List.mem_flatMap.mp h
   have:=ib c a ha
   simp only[List.mem_cons,List.not_mem_nil,or_false] at hb
   rcases hb with rfl | rfl <;> simp [this]
noncomputable def bR(b:List Bool):D:= .tup (b.map bI)
noncomputable def aE(c:Nat)(inp:Option V3)(a2 a3 a4:Option V3):DE:=[some (.d (nI c)),inp,a2,a3,a4]
theorem qD{c:Nat}{S:aN}(hc:c≤10)(hS:wA S){Q:V3→aN→Prop}(h:Q (.d (.lst ((bx c).map bR))) S):W3 (fA [.d (nI c)] S) Q:=by
 have hz:sizeLine=16777216:=sizeLine_eq
 unfold fA
 refine mq hS (vq rfl ?_)
 simp only[bQ,g9,List.map_cons,List.map_nil,List.length_cons,List.length_nil,List.replicate,List.cons_append,List.nil_append,Nat.reduceAdd,Nat.reduceSub]
 unfold jW
 refine bu <| bY (by simp only[List.length_cons,List.length_nil,List.length_set];omega) <| jn (ds:=(bx 0).map bR) rfl ⟨_,rfl,?_⟩
 simp only[List.set_cons_succ,List.set_cons_zero]
 refine bu <| gO <| k7 (d9 (n:=c) rfl (by omega)) ?_
 refine(cz (fun i δ S2=>∃(T:aN) (a2 a3 a4:Option V3),S2=S++T++[.lst ((bx i).map bR)]∧δ=aE c (some (.loc (S++T).length)) a2 a3 a4)
  ⟨[],none,none,none,by simp,by simp [aE]⟩ ?_).mono fun o S2 ⟨δ2,e2',T,a2,a3,a4,hS2,hδ⟩=>⟨δ2,e2',?_⟩
 ·rintro i v δ S2 hv ⟨T,a2,a3,a4,rfl,rfl⟩
  have hi:i < c:=by
   have:=(List.getElem?_eq_some_iff.mp hv).1
   rwa [List.length_map,cc,List.length_map,List.length_range] at this
  have hpow:(bx i).length≤1024:=by
   rw[cq]
   exact Nat.pow_le_pow_right (by omega) (by omega:i≤10)
  refine⟨aE c (some (.loc (S++T).length)) (some v) a3 a4,rfl,?_⟩
  unfold kR aE
  refine HV (i:=1) rfl (bO _ _) ?_
  rw[gg]
  simp only[List.set_cons_succ,List.set_cons_zero]
  refine bu <| bY (by simp only[List.length_cons,List.length_nil,List.length_set];omega) <| jn (ds:=[]) rfl ⟨_,rfl,?_⟩
  simp only[List.set_cons_succ,List.set_cons_zero]
  generalize hU:S++T++[SO.iF]=U
  refine bu <| gO <| k7 (ds:=(bx i).map bR) rfl ?_
  refine(cz (fun j δ S3=>(∃b4,δ=[some (.d (nI c)),some (.d (.lst ((bx i).map bR))),some v,some (.loc U.length),b4])∧S3=U++[.lst ((((bx i).take j).flatMap fun b=>[b++[false],b++[true]]).map bR)])
   ⟨⟨_,rfl⟩,by simp⟩ ?_).mono fun o S3 ⟨δ3,e3,⟨b4,hδ3⟩,hS3⟩=>⟨δ3,e3,?_⟩
  ·rintro j v3 δ S3 hv3 ⟨⟨b4,rfl⟩,rfl⟩
   obtain⟨b,hb,rfl⟩:=NT.jb hv3
   have hj:=(List.getElem?_eq_some_iff.mp hb).1
   have hbl:=ib i b (List.mem_of_getElem? hb)
   refine⟨[some (.d (nI c)),some (.d (.lst ((bx i).map bR))),some v,some (.loc U.length),some (.d (bR b))],rfl,?_⟩
   unfold kl
   generalize hL:((((bx i).take j).flatMap fun b=>[b++[false],b++[true]]).map bR)=L
   have hLl:L.length≤2048:=by
    rw[←hL,List.length_map,List.length_flatMap]
    have:((bx i).take j).map (fun b=>[b++[false],b++[true]].length)=((bx i).take j).map fun _=>2:=rfl
    rw[this,List.map_const',List.sum_replicate_nat,List.length_take]
    omega
   have add:∀(x:Bool) (δ:av),af 4 δ= .ok (bR b)→e2 jy (af 4) (cP (aj (eC (bI x)) aI)) δ= .ok (bR (b++[x])):=fun x δ h4=>by
    refine ax (a:=bR b) (b:= .tup [bI x]) h4 (cK rfl (by simp;omega)) ?_
    show R.bC (decide ((b.map bI).length+[bI x].length≤sizeLine)) _=_
    rw[bH _ (by rw[List.length_map];simp;omega)]
    unfold bR
    rw[List.map_append];rfl
   refine bu <| kM (k:=U.length) rfl ⟨_,bO _ _⟩ <| dP (d:=bR (b++[false])) (add false _ rfl) ⟨_,_,rfl,bO _ _,by omega,_,rfl,?_⟩
   rw[gg]
   refine kM (k:=U.length) rfl ⟨_,bO _ _⟩ <| dP (d:=bR (b++[true])) (add true _ rfl) ⟨_,_,rfl,bO _ _,by rw[List.length_append];simp;omega,_,rfl,⟨_,rfl⟩,?_⟩
   rw[gg,List.take_add_one,hb,List.flatMap_append,List.map_append,hL]
   simp
  rw[List.length_map,List.length_map,List.take_length] at hS3
  subst hδ3 hS3
  refine bY (by simp only[List.length_cons,List.length_nil,List.length_set];omega) <| w_var (v:= .loc U.length) rfl ⟨_,rfl,T++[SO.iF],some v,some (.loc U.length),b4,?_,?_⟩
  ·rw[←hU,List.append_assoc S];rfl
  ·rw[←hU,List.append_assoc S];rfl
 have hlen:((cc 0 c).map V3.d).length=c:=by simp [cc]
 rw[hlen] at hS2
 subst hδ hS2
 unfold aE
 refine gu (w_var rfl ⟨_,rfl,by unfold eO;exact decide_eq_true (by rw[List.length_append];omega),⟨T++[.lst ((bx c).map bR)],by rw[List.append_assoc]⟩,_,by unfold res;rw [bO],h⟩)
end K16
end
section
set_option maxRecDepth 100000
set_option maxHeartbeats 4000000
namespace K16
open PySem PySem.Spec PyProof.Rows L2 L3 MT
noncomputable def He(c j:Nat):M:=fun p=>((bx c).getD p []).getD j false
noncomputable def qR(c:Nat):List M:=(List.range c).map (He c)
theorem Ew{b:List Bool}{j:Nat}(h:j < b.length):cb (bR b) (.int j)= .ok (bI (b.getD j false)):=by
 refine qr ?_
 rw[j3 (by omega) (by rw[List.length_map,Int.toNat_natCast];exact h)]
 rw[List.getD_eq_getElem?_getD,List.getElem?_eq_getElem h]
 simp
theorem vy{c j:Nat}(hc:c≤10)(hj:j < c):ia [.lst ((bx c).map bR), .int j]= .ok (mI (2 ^ c) (He c j)):=by
 have hz:sizeLine=16777216:=sizeLine_eq
 have hp:2 ^ c≤1024:=Nat.pow_le_pow_right (by omega) hc
 unfold ia rH
 refine dm (cI (aM (ds:=[.lst (((bx c).map fun b=>b.getD j false).map bI)]) (ay (eX (eu (ds:=(bx c).map bR) rfl (by rw[List.length_map,cq];omega) ?_)) rfl) ?_))
 ·rw[List.map_map]
  exact NT.cO bR _ fun b hb=>⟨[.val (bR b), .val (.int j)],rfl,rfl,ax (a:=bR b) (b:= .int j) rfl rfl (Ew (by rw[ib c b hb];exact hj))⟩
 ·rw[p_ (by rw[List.length_map,cq];omega),Aw,List.length_map,cq]
  unfold mI
  congr 3
  refine kU fun p hp'=>?_
  unfold He
  rw[List.getD_eq_getElem?_getD,List.getElem?_map,List.getD_eq_getElem?_getD (l:=bx c),List.getElem?_eq_getElem (by rw[cq];exact hp')]
  rfl
section
variable {c:Nat} {ins:List (Str × Nat)} {gs:List Gt} {os:List (Str × List Nat)}
noncomputable abbrev yz:=Str.ofString "net"
noncomputable abbrev qW:=Str.ofString "many_inputs"
noncomputable abbrev rR:=Str.ofString "full"
noncomputable abbrev nK:=Str.ofString "in_masks"
noncomputable def eB(c:Nat)(nt:D):List (Str × V3):=[(yz, .d nt),(qW, .d (nI (2 ^ c))),(rR, .d (mI (2 ^ c) one)),(nK, .d (.lst ((qR c).map (mI (2 ^ c)))))]
theorem DG{S:aN}(hc:ins.length=c)(hc1:c≤10)(hS:wA (S++[.ins 0 []])){Q:V3→aN→Prop}(h:Q (.d .dk) (S++[.ins 0 (eB c (bz ins gs os))])) :
 W3 (cL [.loc S.length, .d (bz ins gs os)] (S++[.ins 0 []])) Q:=by
 have hz:sizeLine=16777216:=sizeLine_eq
 have hp:2 ^ c≤1024:=Nat.pow_le_pow_right (by omega) hc1
 unfold cL
 refine Hc rfl ?_
 simp only[bQ,c7,List.map_cons,List.map_nil,List.length_cons,List.length_nil,List.replicate,List.cons_append,List.nil_append,Nat.reduceAdd,Nat.reduceSub]
 unfold gz
 refine bu <| bY (by simp only[List.length_cons,List.length_nil,List.length_set];omega) <| eD <| aG <| dP (d:=nI c) (aM (ds:=[.lst (ins.map inD)]) rfl (by rw[lh,List.length_map,hc];rfl)) <| cJ <| qD hc1 hS ⟨_,rfl,?_⟩
 simp only[List.set_cons_succ,List.set_cons_zero]
 refine bu <| iA (k:=S.length) <| dP (d:=bz ins gs os) rfl <| w_var (v:= .loc S.length) rfl ⟨_,rfl,bO _ _,by simp,_,rfl,?_⟩
 rw[gg]
 refine bu <| iA (k:=S.length) <| dP (d:=nI (2 ^ c)) (aM (ds:=[.lst ((bx c).map bR)]) rfl (by rw[lh,List.length_map,cq];rfl)) <| w_var (v:= .loc S.length) rfl ⟨_,rfl,bO _ _,by unfold vk;simp,_,rfl,?_⟩
 rw[gg]
 refine bu <| iA (k:=S.length) <| dP (d:=mI (2 ^ c) one) (aM (ds:=[.lst (((bx c).map fun _=>true).map bI)]) (ay (eX (eu (ds:=(bx c).map bR) rfl (by rw[List.length_map,cq];omega) ?_)) rfl) ?_) <| w_var (v:= .loc S.length) rfl ⟨_,rfl,bO _ _,?_,_,rfl,?_⟩
 ·rw[List.map_map]
  exact NT.cO bR _ fun b hb=>⟨[.val (bR b)],rfl,rfl,rfl⟩
 ·rw[p_ (by rw[List.length_map,cq];omega),Aw,List.length_map,cq]
  unfold mI
  congr 3
  refine kU fun p hp'=>?_
  rw[List.getD_eq_getElem?_getD,List.getElem?_map,List.getElem?_eq_getElem (by rw[cq];exact hp')]
  rfl
 ·exact(by decide:2 < 1000)
 rw[gg]
 refine iA (k:=S.length) <| dP (d:= .lst ((qR c).map (mI (2 ^ c)))) (eX (eu (ds:=cc 0 c) (d9 (n:=c) (aM (ds:=[.lst (ins.map inD)]) rfl (by rw[lh,List.length_map,hc])) (by omega)) (by simp [cc];omega) ?_)) <| w_var (v:= .loc S.length) rfl ⟨_,rfl,bO _ _,?_,_,rfl,?_⟩
 ·unfold qR
  rw[List.map_map]
  unfold cc
  refine NT.cO (fun i:Nat=>D.int (0+(i:Int))) _ fun j hj=>⟨[.val (.int (0+(j:Int))), .val (.lst ((bx c).map bR))],rfl,rfl,aM (ds:=[.lst ((bx c).map bR), .int j]) ?_ (vy hc1 (List.mem_range.mp hj))⟩
  rw[Int.zero_add]
  rfl
 ·exact(by decide:3 < 1000)
 rw[gg]
 exact h
end
end K16
end
section
set_option maxRecDepth 100000
set_option maxHeartbeats 4000000
namespace K16
open PySem PySem.Spec PyProof.Rows L2 L3 MT
section
variable {c:Nat} {ins:List (Str × Nat)} {gs:List Gt} {os:List (Str × List Nat)} {S:aN} {k:Nat} {turned bad:List Int}
theorem KA:(qW==yz)=false:=by decide+kernel
theorem LF:(rR==yz)=false:=by decide+kernel
theorem K8:(rR==qW)=false:=by decide+kernel
theorem Ln:(nK==yz)=false:=by decide+kernel
theorem Lf:(nK==qW)=false:=by decide+kernel
theorem KY:(nK==rR)=false:=by decide+kernel
theorem AJ{nt:D}:(eB c nt).lookup yz=some (.d nt):=by unfold eB;rw [List.lookup_cons,beq_self_eq_true]
theorem Cn{nt:D}:(eB c nt).lookup qW=some (.d (nI (2 ^ c))):=by unfold eB;rw [List.lookup_cons,KA,List.lookup_cons,beq_self_eq_true]
theorem xX{nt:D}:(eB c nt).lookup rR=some (.d (mI (2 ^ c) one)):=by unfold eB;rw [List.lookup_cons,LF,List.lookup_cons,K8,List.lookup_cons,beq_self_eq_true]
theorem Bf{nt:D}:(eB c nt).lookup nK=some (.d (.lst ((qR c).map (mI (2 ^ c))))):=by unfold eB;rw [List.lookup_cons,Ln,List.lookup_cons,Lf,List.lookup_cons,KY,List.lookup_cons,beq_self_eq_true]
theorem qh:(qR c).length=c:=by unfold qR;simp
noncomputable abbrev Wd(c:Nat)(ins:List (Str × Nat))(gs:List Gt)(turned bad:List Int):List M:=jm ins gs (qR c) turned bad
theorem Cu(m:Str)(nt:D)(h1:(m==yz)=false)(h2:(m==qW)=false)(h3:(m==rR)=false)(h4:(m==nK)=false):(eB c nt).lookup m=none:=by unfold eB;rw [List.lookup_cons,h1,List.lookup_cons,h2,List.lookup_cons,h3,List.lookup_cons,h4];rfl
theorem z7(NO:g8 ins gs os)(hc:ins.length=c)(hS:wA S)(hb:S[k]? =some (.ins 0 (eB c (bz ins gs os)))){Q:V3→aN→Prop}(h:Q (.d (.lst (l9 (2 ^ c) os (Wd c ins gs turned bad)))) S) :
 W3 (eM [.loc k, .d (.tup (turned.map .int)), .d (.tup (bad.map .int))] S) Q:=by
 have hz:sizeLine=16777216:=sizeLine_eq
 unfold eM
 refine mq hS (vq rfl ?_)
 simp only[bQ,gI,List.map_cons,List.map_nil,List.length_cons,List.length_nil,List.replicate,List.cons_append,List.nil_append,Nat.reduceAdd,Nat.reduceSub]
 unfold jj
 have hl:(qR c).length=ins.length:=by rw[qh,hc]
 refine gu <| eD <| aG <| w_fld (k:=k) <| w_var (v:= .loc k) rfl ⟨_,_,rfl,hb,AJ,?_⟩
 refine aG <| eD <| aG <| w_fld (k:=k) <| w_var (v:= .loc k) rfl ⟨_,_,rfl,hb,AJ,?_⟩
 refine aG <| w_fld (k:=k) <| w_var (v:= .loc k) rfl ⟨_,_,rfl,hb,Bf,?_⟩
 refine aG <| w_fld (k:=k) <| w_var (v:= .loc k) rfl ⟨_,_,rfl,hb,xX,?_⟩
 refine aG <| dP (d:= .tup (turned.map .int)) rfl <| aG <| dP (d:= .tup (bad.map .int)) rfl <| cJ ?_
 refine BF (.inl rfl) NO hl hS (cJ ?_)
 refine Cs NO.ho (fun x hx=>⟨(NO.o x hx).1,fun w hw=>by rw[uH hl];exact(NO.o x hx).2 w hw⟩) hS ?_
 exact⟨_,rfl,by unfold eO;rfl,⟨[],by simp⟩,_,by unfold res;rfl,h⟩
noncomputable def Cy(N:Nat)(os:List (Str × List Nat))(ws:List M):List D:=os.map fun x=> .tup [mI N (r0 (tell ws x)),mI N (r1 (tell ws x))]
theorem nY(NO:g8 ins gs os)(hc:ins.length=c)(ho:∀x∈os,1≤x.2.length∧x.2.length≤3)(hS:wA S)(hb:S[k]? =some (.ins 0 (eB c (bz ins gs os)))){Q:V3→aN→Prop}(h:Q (.d (.lst (Cy (2 ^ c) os (Wd c ins gs turned [])))) S) :
 W3 (cm [.loc k, .d (.tup (turned.map .int))] S) Q:=by
 have hz:sizeLine=16777216:=sizeLine_eq
 have hO:=NO.ho
 unfold cm
 refine mq hS (vq rfl ?_)
 simp only[bQ,dS,List.map_cons,List.map_nil,List.length_cons,List.length_nil,List.replicate,List.cons_append,List.nil_append,Nat.reduceAdd,Nat.reduceSub]
 unfold gA
 refine gu <| kZ (fun j ds S2=>S2=S∧ds=(Cy (2 ^ c) os (Wd c ins gs turned [])).take j) ?_
 refine xU <| pE (k:=k) <| w_var (v:= .loc k) rfl ⟨_,rfl,hb,Cu _ _ (by decide+kernel) (by decide+kernel) (by decide+kernel) (by decide+kernel),?_⟩
 refine aG <| dP (d:= .tup (turned.map .int)) rfl <| aG <| dP (d:= .tup (([]:List Int).map .int)) rfl <| cJ ?_
 refine z7 NO hc hS hb ⟨_,rfl,?_,⟨rfl,by simp⟩,?_,?_⟩
 ·rw[List.length_map,l9,List.length_map];omega
 ·rintro j v ds S2 hv ⟨rfl,rfl⟩
  rw[l9] at hv
  obtain⟨x,hx,rfl⟩:=NT.jb hv
  refine⟨[some (.d (.tup ((tell (Wd c ins gs turned []) x).map (mI (2 ^ c))))),some (.loc k)],rfl,uJ ?_⟩
  rw[if_pos rfl]
  refine wY <| aG <| dP (d:= .tup ((tell (Wd c ins gs turned []) x).map (mI (2 ^ c)))) rfl <| aG <| w_fld (k:=k) <| w_var (v:= .loc k) rfl ⟨_,_,rfl,hb,xX,cJ ⟨[.tup ((tell (Wd c ins gs turned []) x).map (mI (2 ^ c))),mI (2 ^ c) one],_,rfl,wa ?_,_,rfl,rfl,?_⟩⟩
  ·unfold tell;rw [List.length_map];exact ho x (List.mem_of_getElem? hx)
  ·unfold Cy
   rw[List.take_add_one,List.getElem?_map,hx]
   rfl
 ·rintro ds S2 ⟨rfl,rfl⟩
  rw[List.length_map,l9,List.length_map,List.take_of_length_le (by rw[Cy,List.length_map];exact Nat.le_refl _)]
  exact⟨_,rfl,by unfold eO;rfl,⟨[],by simp⟩,_,by unfold res;rfl,h⟩
theorem tw{nt:D}{f:M}(hc:c≤10)(hS:wA S)(hb:S[k]? =some (.ins 0 (eB c nt))){Q:V3→aN→Prop}(h:Q (.d (.lst (((List.range (2 ^ c)).filter f).map nI))) S) :
 W3 (dg [.loc k, .d (mI (2 ^ c) f)] S) Q:=by
 have hz:sizeLine=16777216:=sizeLine_eq
 have hp:2 ^ c≤1024:=Nat.pow_le_pow_right (by omega) hc
 unfold dg
 refine mq hS (vq rfl ?_)
 simp only[bQ,dy,List.map_cons,List.map_nil,List.length_cons,List.length_nil,List.replicate,List.cons_append,List.nil_append,Nat.reduceAdd,Nat.reduceSub]
 unfold gf
 refine gu <| kZ (fun j ds S2=>S2=S∧ds=((List.range j).filter f).map nI) ?_
 refine sF <| w_fld (k:=k) <| w_var (v:= .loc k) rfl ⟨_,_,rfl,hb,Cn,2 ^ c,rfl,by omega,?_⟩
 have hlen:((cc 0 (2 ^ c)).map V3.d).length=2 ^ c:=by simp [cc]
 rw[hlen]
 refine⟨by omega,⟨rfl,rfl⟩,?_,?_⟩
 ·rintro j v ds S2 hv ⟨rfl,rfl⟩
  obtain⟨hj,rfl⟩:=NT.lU hv
  refine⟨[some (.d (.int j)),some (.d (mI (2 ^ c) f))],rfl,Ct (b:=f j) ?_ ?_⟩
  ·refine iW (a:= .int (if decide (j < 2 ^ c) && f j then 1 else 0)) (b:= .int 1) (aM (ds:=[mI (2 ^ c) f, .int j]) rfl EO) rfl ?_
   rw[decide_eq_true hj,Bool.true_and]
   cases f j <;> rfl
  ·rw[List.range_succ,List.filter_append,List.map_append]
   cases hf:f j with
   | true=>rw [if_pos rfl];exact dP (d:=nI j) rfl ⟨_,rfl,rfl,by simp [hf]⟩
   | false=>rw [if_neg (by decide)];exact⟨rfl,by simp [hf]⟩
 ·rintro ds S2 ⟨rfl,rfl⟩
  exact⟨_,rfl,by unfold eO;rfl,⟨[],by simp⟩,_,by unfold res;rfl,h⟩
end
end K16
end
section
set_option maxRecDepth 100000
set_option maxHeartbeats 4000000
namespace K16
open PySem PySem.Spec PyProof.Rows L2 L3 MT
theorem l5(n:Nat):cc 0 n=(List.range n).map nI:=by
 unfold cc
 refine List.map_congr_left fun i _=>?_
 show D.int (0+(i:Int))=D.int (i:Int)
 rw[Int.zero_add]
noncomputable def hW(T:List Nat):D:= .tup (T.map nI)
theorem Ce{ps:List Nat}{a:Nat}(ha:a < ps.length):Fg (.lst (ps.map nI)) (some ((a+1:Nat):Int)) none= .ok (.lst ((ps.drop (a+1)).map nI)):=by
 show R.ok (D.lst (L2.cutD (ps.map nI) (some ((a+1:Nat):Int)) none))=_
 congr 2
 unfold L2.cutD
 rw[List.length_map,HT.rX,HT.AY,Nat.min_eq_left (by omega),←List.map_drop,←List.map_take,List.take_of_length_le (by rw[List.length_drop];omega)]
theorem EI{ds es:List D}(h:ds.length+es.length≤sizeLine):jy (.tup ds) (.tup es)= .ok (.tup (ds++es)):=bH _ h
theorem pZ:∀(n s:Nat) (ps:List Nat),s≤n→n≤3→ps.length≤100→dU (n+1) [.lst (ps.map nI), .int s]= .ok (.lst ((kf ps s).map hW))
 | n,0,ps,_,_,_=>by
   show mj js (jo (dU n)) _=_
   unfold jo
   exact dm (NT.j1 (n5 (iW (a:= .int 0) (b:= .int 0) rfl rfl rfl) (cI rfl)))
 | 0,s+1,ps,h,_,_=>by omega
 | n+1,s+1,ps,h,hn,hp=>by
   have hz:sizeLine=16777216:=sizeLine_eq
   show mj js (jo (dU (n+1))) _=_
   unfold jo
   have hcl:(kf ps (s+1)).length≤100 ^ (s+1):=o5 hp
   have hpow:∀m,m≤3→(100:Nat) ^ m≤1000000:=fun m hm=>Nat.pow_le_pow_right (by omega) hm
   refine dm (bA (iB (iW (a:= .int (s+1:Nat)) (b:= .int 0) (k:=false) rfl rfl ?_) rfl) ?_)
   ·show R.ok (D.bl (((s+1:Nat):Int)==0))=_
    congr 2
   refine bA (B6 (ds:=[]) rfl (by simp [cY,js])) ?_
   let F:Nat→List (List Nat):=fun i=>(List.range i).flatMap fun a=>(kf (ps.drop (a+1)) s).map (ps.getD a 0 ::·)
   have hF:∀i,i≤ps.length→(F i).length≤i*100 ^ s:=fun i hi=>by
    show((List.range i).flatMap fun a=>(kf (ps.drop (a+1)) s).map (ps.getD a 0 ::·)).length≤_
    rw[List.length_flatMap]
    refine Nat.le_trans (vC (m:=100 ^ s) fun x hx=>?_) (by rw[List.length_map,List.length_range];exact Nat.le_refl _)
    obtain⟨a,_,rfl⟩:=List.mem_map.mp hx
    rw[List.length_map]
    exact o5 (by rw[List.length_drop];omega)
   have hFs:∀i,F (i+1)=F i++(kf (ps.drop (i+1)) s).map (ps.getD i 0 ::·):=fun i=>by
    show(List.range (i+1)).flatMap _=_
    rw[List.range_succ,List.flatMap_append]
    simp [F]
   obtain⟨δ1,e1,a3,a4,a5,hδ1⟩:=fT (t:=fS 2 (b_ (aJ 3) (b_ (aJ 4) fU))) (body:=ki (dU (n+1))) (ds:=dO (ps.map nI))
    (fun i δ=>∃a3 a4 a5,δ=[.val (.lst (ps.map nI)), .val (.int (s+1:Nat)), .bld ((F i).map hW),a3,a4,a5]) (δ:=[.val (.lst (ps.map nI)), .val (.int (s+1:Nat)), .bld [], .un, .un, .un]) ⟨.un, .un, .un,by simp [F]⟩ (by
      rintro i d δ hd ⟨a3,a4,a5,rfl⟩
      have hv:((dO (ps.map nI)).map V3.d)[i]? =some (.d d):=by rw[List.getElem?_map,hd];rfl
      obtain⟨d0,hd0,ed⟩:=se hv
      cases ed
      obtain⟨x,hx,rfl⟩:=NT.tu hd0
      have hil:=(List.getElem?_eq_some_iff.mp hx).1
      have hxd:ps.getD i 0=x:=by rw[List.getD_eq_getElem?_getD,hx];rfl
      have hFi:=hF i (by omega)
      have hFb:i*100 ^ s≤100*100 ^ s:=Nat.mul_le_mul_right _ (by omega)
      have hp2:=hpow (s+1) (by omega)
      rw[Nat.pow_succ,Nat.mul_comm] at hp2
      rw[show fS 2 (b_ (aJ 3) (b_ (aJ 4) fU)) (.tup [.int i,nI x]) [.val (.lst (ps.map nI)), .val (.int (s+1:Nat)), .bld ((F i).map hW),a3,a4,a5]= .ok [.val (.lst (ps.map nI)), .val (.int (s+1:Nat)), .bld ((F i).map hW), .val (.int i), .val (nI x),a5] from rfl,R.aH]
      unfold ki
      have ihc:=pZ n s (ps.drop (i+1)) (by omega) (by omega) (by rw[List.length_drop];omega)
      have hdl:(kf (ps.drop (i+1)) s).length≤100 ^ s:=o5 (by rw[List.length_drop];omega)
      obtain⟨δ2,e2',c5,hδ2⟩:=fT (t:=aJ 5) (body:=kP (dU (n+1))) (ds:=(kf (ps.drop (i+1)) s).map hW)
       (fun j δ=>∃c5,δ=[.val (.lst (ps.map nI)), .val (.int (s+1:Nat)), .bld ((F i++((kf (ps.drop (i+1)) s).take j).map (x ::·)).map hW), .val (.int i), .val (nI x),c5]) (δ:=[.val (.lst (ps.map nI)), .val (.int (s+1:Nat)), .bld ((F i).map hW), .val (.int i), .val (nI x),a5]) ⟨a5,by simp⟩ (by
         rintro j d δ hd ⟨c5,rfl⟩
         obtain⟨T,hT,rfl⟩:=NT.tu hd
         have hjl:=(List.getElem?_eq_some_iff.mp hT).1
         have hTl:=(nU (List.mem_of_getElem? hT)).1
         refine⟨[.val (.lst (ps.map nI)), .val (.int (s+1:Nat)), .bld ((F i++((kf (ps.drop (i+1)) s).take (j+1)).map (x ::·)).map hW), .val (.int i), .val (nI x), .val (hW T)],?_,⟨_,rfl⟩⟩
         generalize hL:(F i++((kf (ps.drop (i+1)) s).take j).map (x ::·)).map hW=L
         have hLl:L.length < sizeLine:=by
          rw[←hL,List.length_map,List.length_append,List.length_map,List.length_take]
          omega
         rw[show aJ 5 (hW T) [.val (.lst (ps.map nI)), .val (.int (s+1:Nat)), .bld L, .val (.int i), .val (nI x),c5]= .ok [.val (.lst (ps.map nI)), .val (.int (s+1:Nat)), .bld L, .val (.int i), .val (nI x), .val (hW T)] from rfl,R.aH]
         unfold kP
         rw[sU (d:=hW (x ::T)) (ds:=L) (ax (a:= .tup [nI x]) (b:=hW T) (cK rfl (by simp;omega)) rfl (EI (by rw[List.length_map];simp;omega))) rfl hLl,←hL,List.take_add_one,hT]
         simp [hW])
      refine⟨_,gn (ds:=(kf (ps.drop (i+1)) s).map hW) (iM (aM (ds:=[.lst ((ps.drop (i+1)).map nI), .int s]) (ay (Aq (d:= .lst (ps.map nI)) (lo:=some ((i+1:Nat):Int)) (hi:=none) rfl (AL (ax (a:= .int i) (b:= .int 1) rfl rfl rfl)) rfl (Ce hil)) (ay (ax (a:= .int (s+1:Nat)) (b:= .int 1) rfl rfl ?_) rfl)) ihc)) e2',?_⟩
      ·show R.ok (D.int (((s+1:Nat):Int) - 1))=_
       congr 2
       omega
      ·rw[List.length_map,List.take_length] at hδ2
       refine⟨.val (.int i), .val (nI x),c5,?_⟩
       rw[hδ2,hFs,hxd])
   refine bA (gn (ds:=dO (ps.map nI)) rfl e1) ?_
   have hlen:(dO (ps.map nI)).length=ps.length:=by simp [dO]
   rw[hlen] at hδ1
   subst hδ1
   exact cI rfl
end K16
end
section
set_option maxRecDepth 100000
set_option maxHeartbeats 4000000
namespace K16
open PySem PySem.Spec PyProof.Rows L2 L3 MT
section
variable {c:Nat} {ins:List (Str × Nat)} {gs:List Gt} {os:List (Str × List Nat)} {S:aN} {k:Nat} {turned:List Int} {safe:Bool}
noncomputable abbrev lW:=Str.ofString "bench"
noncomputable abbrev qb:=Str.ofString "plain"
noncomputable abbrev ml:=Str.ofString "unsure"
noncomputable def lZ(gs:List Gt):List Nat:=(List.range gs.length).filter fun i=>match gs[i]? with | some g=>!g.2.2 | none=>false
noncomputable def gY(c:Nat)(ins:List (Str × Nat))(gs:List Gt)(os:List (Str × List Nat))(b:Nat):List (Str × V3):=[(lW, .loc b),(qb, .d (.lst (Cy (2 ^ c) os (Wd c ins gs [] [])))),(ml, .d (.lst ((lZ gs).map nI)))]
theorem LJ:(qb==lW)=false:=by decide+kernel
theorem LR:(ml==lW)=false:=by decide+kernel
theorem Kw:(ml==qb)=false:=by decide+kernel
theorem ur{b:Nat}:(gY c ins gs os b).lookup lW=some (.loc b):=by unfold gY;rw [List.lookup_cons,beq_self_eq_true]
theorem A6{b:Nat}:(gY c ins gs os b).lookup qb=some (.d (.lst (Cy (2 ^ c) os (Wd c ins gs [] [])))):=by unfold gY;rw [List.lookup_cons,LJ,List.lookup_cons,beq_self_eq_true]
theorem En{b:Nat}:(gY c ins gs os b).lookup ml=some (.d (.lst ((lZ gs).map nI))):=by unfold gY;rw [List.lookup_cons,LR,List.lookup_cons,Kw,List.lookup_cons,beq_self_eq_true]
theorem Hb{b:Nat}(m:Str)(h1:(m==lW)=false)(h2:(m==qb)=false)(h3:(m==ml)=false):(gY c ins gs os b).lookup m=none:=by unfold gY;rw [List.lookup_cons,h1,List.lookup_cons,h2,List.lookup_cons,h3];rfl
noncomputable def TS(S:aN)(c:Nat)(ins:List (Str × Nat))(gs:List Gt)(os:List (Str × List Nat)):aN:=S++[.ins 1 (gY c ins gs os (S.length+1)), .ins 0 (eB c (bz ins gs os))]
theorem EY{S:aN}(hS:Flat S){x y:SO}(hx:oQ (S.length+2) x=true)(hy:oQ (S.length+2) y=true):wA (S++[x,y]):=fun o ho=>by
 rw[show(S++[x,y]).length=S.length+2 by simp]
 rcases List.mem_append.mp ho with q | q
 ·exact hS o q _
 ·simp only[List.mem_cons,List.not_mem_nil,or_false] at q
  rcases q with rfl | rfl
  ·exact hx
  ·exact hy
theorem Al{δ:av}(hg:gs.length < 1000)(h1:af 1 δ= .ok (bz ins gs os)):fu (ji (e2 cb (af 1) (eC (.int 1)))) (fS 2 (b_ (aJ 0) (b_ (aJ 1) fU))) (k8 (k9 (e2 cb (af 1) (eC (.int 2))))) (af 0) [(Str.ofString "place"),(Str.ofString "gate")] [] δ= .ok ((lZ gs).map nI):=by
 have hz:sizeLine=16777216:=sizeLine_eq
 refine eu (ds:=dO (gs.map gp)) (Fd (ax (a:=bz ins gs os) (b:= .int 1) h1 rfl rfl)) (by simp [dO];omega) ?_
 have e:dO (gs.map gp)=(List.range gs.length).map fun i=> .tup [.int i,gp (gs.getD i (0,[],false))]:=by
  refine List.ext_getElem? fun i=>?_
  rw[List.getElem?_map,dO,List.getElem?_map,List.getElem?_zipIdx,List.getElem?_map]
  by_cases q:i < gs.length
  ·rw[List.getElem?_eq_getElem q,List.getElem?_range q]
   show some (D.tup [.int ((0+i:Nat):Int),gp gs[i]])=some (D.tup [.int i,gp (gs.getD i (0,[],false))])
   rw[Nat.zero_add,List.getD_eq_getElem?_getD,List.getElem?_eq_getElem q];rfl
  ·rw[List.getElem?_eq_none (by omega),List.getElem?_eq_none (by simp;omega)];rfl
 rw[e]
 unfold lZ
 refine NT.pj (fun i:Nat=>match gs[i]? with | some g=>!g.2.2 | none=>false) (fun i:Nat=>D.tup [.int i,gp (gs.getD i (0,[],false))]) nI fun i hi=>?_
 rw[List.mem_range] at hi
 refine⟨[.val (.int i), .val (gp (gs.getD i (0,[],false)))],rfl,?_,fun _=>rfl⟩
 rw[List.getElem?_eq_getElem hi,List.getD_eq_getElem?_getD,List.getElem?_eq_getElem hi]
 rfl
theorem By(NO:g8 ins gs os)(hc:ins.length=c)(hc1:c≤10)(ho:∀x∈os,1≤x.2.length∧x.2.length≤3)(hS:Flat S){Q:V3→aN→Prop}(h:Q (.d .dk) (TS S c ins gs os)) :
 W3 (cN [.loc S.length, .d (bz ins gs os)] (S++[.ins 1 []])) Q:=by
 have hz:sizeLine=16777216:=sizeLine_eq
 unfold cN
 refine Hc rfl ?_
 simp only[bQ,dY,List.map_cons,List.map_nil,List.length_cons,List.length_nil,List.replicate,List.cons_append,List.nil_append,Nat.reduceAdd,Nat.reduceSub]
 unfold gE
 have l1:(S++[SO.ins 1 []]).length=S.length+1:=by simp
 have g0:∀(x y:SO),(S++[x,y])[S.length]? =some x:=fun x y=>by rw[List.getElem?_append_right (Nat.le_refl _),Nat.sub_self];rfl
 have g1:∀(x y:SO),(S++[x,y])[S.length+1]? =some y:=fun x y=>by rw[List.getElem?_append_right (by omega),show S.length+1 - S.length=1 by omega];rfl
 have st:∀(x y z:SO),(S++[x,y]).set S.length z=S++[z,y]:=fun x y z=>by rw[List.set_append_right _ _ (Nat.le_refl _),Nat.sub_self];rfl
 have ap:∀(x y:SO),S++[x]++[y]=S++[x,y]:=fun x y=>by simp
 refine bu <| iA (k:=S.length) <| AD <| aG <| dP (d:=bz ins gs os) rfl <| cJ <| DG hc hc1 ?_ ⟨rfl,?_⟩
 ·rw[ap];exact EY hS rfl rfl
 rw[ap]
 refine w_var (v:= .loc S.length) rfl ⟨_,rfl,g0 _ _,by simp,_,rfl,?_⟩
 rw[st,l1]
 have hcl:∀fs:List (Str × V3),me (S.length+2) (fs.map (·.2))=true→wA (S++[.ins 1 fs, .ins 0 (eB c (bz ins gs os))]):=fun fs hf=>EY hS hf rfl
 refine bu <| iA (k:=S.length) <| pE (k:=S.length+1) <| w_fld (k:=S.length) <| w_var (v:= .loc S.length) rfl ⟨_,_,rfl,g0 _ _,(by show List.lookup lW [(lW,V3.loc (S.length+1))]=_;rw [List.lookup_cons,beq_self_eq_true]),_,rfl,g1 _ _,Cu _ _ (by decide+kernel) (by decide+kernel) (by decide+kernel) (by decide+kernel),?_⟩
 refine aG <| dP (d:= .tup (([]:List Int).map .int)) rfl <| cJ <| nY NO hc ho (hcl _ ?_) (g1 _ _) ?_
 ·show(decide (S.length+1 < S.length+2) && true)=true
  rw[decide_eq_true (by omega)];rfl
 refine w_var (v:= .loc S.length) rfl ⟨_,rfl,g0 _ _,(by decide:1 < 1000),_,rfl,?_⟩
 rw[st]
 refine iA (k:=S.length) <| dP (d:= .lst ((lZ gs).map nI)) (eX (Al NO.hg rfl)) <| w_var (v:= .loc S.length) rfl ⟨_,rfl,g0 _ _,?_,_,rfl,?_⟩
 ·exact(by decide:2 < 1000)
 rw[st]
 exact h
noncomputable def qz(safe:Bool):Str:=if safe then Str.ofString "safe" else Str.ofString "right"
noncomputable def pt(ws:List M)(x:Str × List Nat)(p:Nat):Bool × Bool:=zm ((tell ws x).map (· p))
noncomputable def lR(safe:Bool)(c:Nat)(ins:List (Str × Nat))(gs:List Gt)(os:List (Str × List Nat))(turned:List Int):M:=fun p=>os.any fun x=>brk safe (pt (Wd c ins gs [] []) x p) (pt (Wd c ins gs turned []) x p)
theorem zd{b:Nat}(NO:g8 ins gs os)(hc:ins.length=c)(ho:∀x∈os,1≤x.2.length∧x.2.length≤3)(hS:wA S)(hk:S[k]? =some (.ins 1 (gY c ins gs os b)))(hb:S[b]? =some (.ins 0 (eB c (bz ins gs os)))){Q:V3→aN→Prop}
 (h:Q (.d (mI (2 ^ c) (lR safe c ins gs os turned))) S):W3 (de [.loc k, .d (.tup (turned.map .int)), .d (.str (qz safe))] S) Q:=by
 have hz:sizeLine=16777216:=sizeLine_eq
 unfold de
 refine mq hS (vq rfl ?_)
 simp only[bQ,eG,List.map_cons,List.map_nil,List.length_cons,List.length_nil,List.replicate,List.cons_append,List.nil_append,Nat.reduceAdd,Nat.reduceSub]
 unfold gh
 have h0:D.int 0=mI (2 ^ c) fun _=>false:=by
  unfold mI
  rw[tU.mpr fun _ _=>rfl];rfl
 refine bu <| bY (by simp only[List.length_cons,List.length_nil,List.length_set];omega) <| dP (d:=mI (2 ^ c) fun _=>false) (by rw[←h0];rfl) ⟨_,rfl,?_⟩
 simp only[List.set_cons_succ,List.set_cons_zero]
 refine bu <| gO <| H_ <| w_fld (k:=k) <| w_var (v:= .loc k) rfl ⟨_,_,rfl,hk,A6,?_⟩
 refine pE (k:=b) <| w_fld (k:=k) <| w_var (v:= .loc k) rfl ⟨_,_,rfl,hk,ur,_,rfl,hb,Cu _ _ (by decide+kernel) (by decide+kernel) (by decide+kernel) (by decide+kernel),?_⟩
 refine aG <| dP (d:= .tup (turned.map .int)) rfl <| cJ <| nY NO hc ho hS hb ⟨_,_,_,_,rfl,rfl,rfl,rfl,?_⟩
 have hzip:tW (Cy (2 ^ c) os (Wd c ins gs [] [])) (Cy (2 ^ c) os (Wd c ins gs turned []))=os.map fun x=> .tup [.tup [mI (2 ^ c) (r0 (tell (Wd c ins gs [] []) x)),mI (2 ^ c) (r1 (tell (Wd c ins gs [] []) x))], .tup [mI (2 ^ c) (r0 (tell (Wd c ins gs turned []) x)),mI (2 ^ c) (r1 (tell (Wd c ins gs turned []) x))]]:=by
  unfold tW Cy
  rw[List.zip_map',List.map_map];rfl
 rw[hzip]
 refine(cz (fun i δ S2=>S2=S∧∃a4 a5,δ=[some (.loc k),some (.d (.tup (turned.map .int))),some (.d (.str (qz safe))),some (.d (mI (2 ^ c) fun p=>(os.take i).any fun x=>brk safe (pt (Wd c ins gs [] []) x p) (pt (Wd c ins gs turned []) x p))),a4,a5])
  ⟨rfl,none,none,rfl⟩ ?_).mono fun o S2 ⟨δ2,e2',hS2,a4,a5,hδ⟩=>⟨δ2,e2',?_⟩
 ·rintro i v δ S2 hv ⟨rfl,a4,a5,rfl⟩
  obtain⟨x,hx,rfl⟩:=NT.jb hv
  generalize hm:(fun p=>(os.take i).any fun x=>brk safe (pt (Wd c ins gs [] []) x p) (pt (Wd c ins gs turned []) x p))=m
  have hnext:(fun p=>(os.take (i+1)).any fun x=>brk safe (pt (Wd c ins gs [] []) x p) (pt (Wd c ins gs turned []) x p))=fun p=>m p || brk safe (pt (Wd c ins gs [] []) x p) (pt (Wd c ins gs turned []) x p):=by
   funext p
   rw[List.take_add_one,hx,List.any_append,←hm]
   simp
  rw[hnext]
  refine⟨[some (.loc k),some (.d (.tup (turned.map .int))),some (.d (.str (qz safe))),some (.d (mI (2 ^ c) m)),some (.d (.tup [mI (2 ^ c) (r0 (tell (Wd c ins gs [] []) x)),mI (2 ^ c) (r1 (tell (Wd c ins gs [] []) x))])),some (.d (.tup [mI (2 ^ c) (r0 (tell (Wd c ins gs turned []) x)),mI (2 ^ c) (r1 (tell (Wd c ins gs turned []) x))]))],rfl,?_⟩
  unfold g7
  refine wz <| Ct (b:=safe) (iW (a:= .str (qz safe)) (b:= .str (Str.ofString "safe")) rfl rfl ?_) ?_
  ·show R.ok (D.bl (qz safe==Str.ofString "safe"))=_
   congr 2
   cases safe <;> decide+kernel
  cases safe with
  | true=>
    rw[if_pos rfl]
    refine bY (by simp only[List.length_cons,List.length_nil,List.length_set];omega) <| dP (ax (ax (a:=mI (2 ^ c) m) rfl (ax (ax rfl rfl yL) (ax rfl rfl A0) (qf _ _ _)) (tV _ _ _)) (ax (ax rfl rfl A0) (ax rfl rfl yL) (qf _ _ _)) (tV _ _ _)) ⟨_,rfl,rfl,some (.d (.tup [mI (2 ^ c) (r0 (tell (Wd c ins gs [] []) x)),mI (2 ^ c) (r1 (tell (Wd c ins gs [] []) x))])),some (.d (.tup [mI (2 ^ c) (r0 (tell (Wd c ins gs turned []) x)),mI (2 ^ c) (r1 (tell (Wd c ins gs turned []) x))])),?_⟩
    simp only[List.set_cons_succ,List.set_cons_zero]
    congr 6
    refine tT fun p _=>?_
    rw[Bool.or_assoc];rfl
  | false=>
    rw[if_neg (by decide)]
    refine bY (by simp only[List.length_cons,List.length_nil,List.length_set];omega) <| dP (ax (ax (a:=mI (2 ^ c) m) rfl (ax (ax rfl rfl yL) (ax rfl rfl yL) (xl _ _ _)) (tV _ _ _)) (ax (ax rfl rfl A0) (ax rfl rfl A0) (xl _ _ _)) (tV _ _ _)) ⟨_,rfl,rfl,some (.d (.tup [mI (2 ^ c) (r0 (tell (Wd c ins gs [] []) x)),mI (2 ^ c) (r1 (tell (Wd c ins gs [] []) x))])),some (.d (.tup [mI (2 ^ c) (r0 (tell (Wd c ins gs turned []) x)),mI (2 ^ c) (r1 (tell (Wd c ins gs turned []) x))])),?_⟩
    simp only[List.set_cons_succ,List.set_cons_zero]
    congr 6
    refine tT fun p _=>?_
    rw[Bool.or_assoc];rfl
 rw[List.length_map,List.length_map,List.take_length] at hδ
 subst hδ hS2
 exact gu <| dP (d:=mI (2 ^ c) (lR safe c ins gs os turned)) rfl ⟨_,rfl,by unfold eO;rfl,⟨[],by simp⟩,_,by unfold res;rfl,h⟩
end
end K16
end
section
set_option maxRecDepth 100000
set_option maxHeartbeats 4000000
namespace K16
open PySem PySem.Spec PyProof.Rows L2 L3 MT
noncomputable def nZ(ps:List Nat):List Int:=ps.map fun(n:Nat)=>(n:Int)
theorem IL(ps:List Nat):(nZ ps).map D.int=ps.map nI:=by unfold nZ;rw [List.map_map];rfl
section
variable {c:Nat} {ins:List (Str × Nat)} {gs:List Gt} {os:List (Str × List Nat)} {S:aN} {k:Nat} {safe:Bool}
noncomputable def vU(T:List Nat)(p:Nat):D:= .tup [.str (Str.ofString "breaks"),hW T,nI p]
noncomputable def gc:D:= .tup [.str (Str.ofString "bears")]
noncomputable def j2(safe:Bool)(c:Nat)(ins:List (Str × Nat))(gs:List Gt)(os:List (Str × List Nat))(T:List Nat):Option D:=
 ((List.range (2 ^ c)).filter (lR safe c ins gs os (nZ T))).head?.map (vU T)
noncomputable def bears(safe:Bool)(c:Nat)(ins:List (Str × Nat))(gs:List Gt)(os:List (Str × List Nat))(m:Nat):D:=
 ((List.range (m+1)).findSome? fun s=>(kf (lZ gs) s).findSome? (j2 safe c ins gs os)).getD gc
theorem CD:(lZ gs).length≤gs.length:=by
 unfold lZ
 exact Nat.le_trans (List.length_filter_le _ _) (by rw[List.length_range];exact Nat.le_refl _)
theorem rn{f:M}{N:Nat}:ig N f=0↔((List.range N).filter f).head? =none:=by
 rw[tU,List.head?_eq_none_iff,List.filter_eq_nil_iff]
 exact⟨fun h i hi=>by rw[h i (List.mem_range.mp hi)];decide,fun h i hi=>by have:=h i (List.mem_range.mpr hi);cases hf:f i with | false=>rfl | true=>exact absurd hf this⟩
theorem AN{net sz a6:Option V3}{m:V3}{T:List Nat}(NO:g8 ins gs os)(hc:ins.length=c)(hc1:c≤10)(ho:∀x∈os,1≤x.2.length∧x.2.length≤3)(hS:Flat S) :
 W3 (nD [net,some m,some (.d (.str (qz safe))),some (.loc S.length),sz,some (.d (hW T)),a6] (TS S c ins gs os)) fun o S1=>S1=TS S c ins gs os∧(match (j2 safe c ins gs os T).map V3.d with | some v=>o= .rt v | none=>∃δ2,o= .nx δ2∧∃b6,δ2=[net,some m,some (.d (.str (qz safe))),some (.loc S.length),sz,some (.d (hW T)),b6]):=by
 have hz:sizeLine=16777216:=sizeLine_eq
 have hk:(TS S c ins gs os)[S.length]? =some (.ins 1 (gY c ins gs os (S.length+1))):=by unfold TS;rw [List.getElem?_append_right (Nat.le_refl _),Nat.sub_self];rfl
 have hb:(TS S c ins gs os)[S.length+1]? =some (.ins 0 (eB c (bz ins gs os))):=by unfold TS;rw [List.getElem?_append_right (by omega),show S.length+1 - S.length=1 by omega];rfl
 have hcl:wA (TS S c ins gs os):=EY hS (by
  show(decide (S.length+1 < S.length+2) && true)=true
  rw[decide_eq_true (by omega)];rfl) rfl
 unfold nD
 refine bu <| bY (by simp only[List.length_cons,List.length_nil,List.length_set];omega) <| pE (k:=S.length) <| w_var (v:= .loc S.length) rfl ⟨_,rfl,hk,Hb _ (by decide+kernel) (by decide+kernel) (by decide+kernel),?_⟩
 refine aG <| dP (d:= .tup ((nZ T).map .int)) (by rw[IL];rfl) <| aG <| dP (d:= .str (qz safe)) rfl <| cJ <| zd NO hc ho hcl hk hb ⟨_,rfl,?_⟩
 simp only[List.set_cons_succ,List.set_cons_zero]
 generalize hf:lR safe c ins gs os (nZ T)=f
 have htry:j2 safe c ins gs os T=((List.range (2 ^ c)).filter f).head?.map (vU T):=by unfold j2;rw [hf]
 refine wz <| Ct (b:=!(decide (ig (2 ^ c) f=0))) (iW (a:=mI (2 ^ c) f) (b:= .int 0) rfl rfl ?_) ?_
 ·show R.ok (D.bl (!((ig (2 ^ c) f:Int)==0)))=_
  congr 3
  by_cases q:ig (2 ^ c) f=0
  ·rw[q];rfl
  ·rw[decide_eq_false q];exact beq_eq_false_iff_ne.mpr (by omega)
 cases hh:((List.range (2 ^ c)).filter f).head? with
 | none=>
   rw[htry,hh,decide_eq_true (rn.mpr hh),if_neg (by decide)]
   exact ph ⟨rfl,_,rfl,_,rfl⟩
 | some p=>
   have hne:¬ig (2 ^ c) f=0:=fun q=>by rw[rn.mp q] at hh;cases hh
   rw[htry,hh,decide_eq_false hne,if_pos (by decide)]
   refine gu <| rj <| aG <| dP (d:= .str (Str.ofString "breaks")) rfl <| aG <| dP (d:=hW T) rfl <| aG <| CG <| pE (k:=S.length+1) <| w_fld (k:=S.length) <| w_var (v:= .loc S.length) rfl ⟨_,_,rfl,hk,ur,_,rfl,hb,Cu _ _ (by decide+kernel) (by decide+kernel) (by decide+kernel) (by decide+kernel),?_⟩
   refine aG <| dP (d:=mI (2 ^ c) f) rfl <| cJ <| tw hc1 hcl hb <| dP (d:= .int 0) rfl ⟨_,_,nI p,rfl,rfl,?_,cJ ⟨by simp;omega,rfl,rfl⟩⟩
   refine pB ?_
   obtain⟨r,hr⟩:∃r,(List.range (2 ^ c)).filter f=p ::r:=by
    cases q:(List.range (2 ^ c)).filter f with
    | nil=>rw [q] at hh;cases hh
    | cons a r=>rw [q] at hh;cases hh;exact⟨r,rfl⟩
   rw[hr,j3 (by omega) (by simp)]
   rfl
theorem mU{m:Nat}(NO:g8 ins gs os)(hc:ins.length=c)(hc1:c≤10)(ho:∀x∈os,1≤x.2.length∧x.2.length≤3)(hg:gs.length≤100)(hm:m≤3)(hS:Flat S){Q:V3→aN→Prop}(h:Q (.d (bears safe c ins gs os m)) S) :
 W3 (fD [.d (bz ins gs os), .d (nI m), .d (.str (qz safe))] S) Q:=by
 have hz:sizeLine=16777216:=sizeLine_eq
 have hk:(TS S c ins gs os)[S.length]? =some (.ins 1 (gY c ins gs os (S.length+1))):=by unfold TS;rw [List.getElem?_append_right (Nat.le_refl _),Nat.sub_self];rfl
 unfold fD
 refine mq hS.J7 (vq rfl ?_)
 simp only[bQ,oW,List.map_cons,List.map_nil,List.length_cons,List.length_nil,List.replicate,List.cons_append,List.nil_append,Nat.reduceAdd,Nat.reduceSub]
 unfold sd
 refine bu <| bY (by simp only[List.length_cons,List.length_nil,List.length_set];omega) <| AD <| aG <| dP (d:=bz ins gs os) rfl <| cJ <| By NO hc hc1 ho hS ⟨rfl,_,rfl,?_⟩
 simp only[List.set_cons_succ,List.set_cons_zero]
 refine z6 <| gO <| k7 (ds:=(List.range (m+1)).map nI) ?_ ?_
 ·rw[←l5]
  exact d9 (n:=m+1) (ax (a:=nI m) (b:= .int 1) rfl rfl rfl) (by omega)
 rw[List.map_map]
 refine(lJ (S:=TS S c ins gs os) (V3.d ∘ nI) (fun s=>((kf (lZ gs) s).findSome? (j2 safe c ins gs os)).map V3.d) (fun δ=>∃a4 a5 a6,δ=[some (.d (bz ins gs os)),some (.d (nI m)),some (.d (.str (qz safe))),some (.loc S.length),a4,a5,a6])
  ⟨_,_,_,rfl⟩ ?_).mono fun o S1 ⟨e1,h1⟩=>?_
 ·rintro s hs δ ⟨a4,a5,a6,rfl⟩
  rw[List.mem_range] at hs
  have hul:(lZ gs).length≤100:=Nat.le_trans CD hg
  have hcs:dU 4 [.lst ((lZ gs).map nI), .int s]= .ok (.lst ((kf (lZ gs) s).map hW)):=pZ 3 s (lZ gs) (by omega) (by omega) hul
  refine⟨[some (.d (bz ins gs os)),some (.d (nI m)),some (.d (.str (qz safe))),some (.loc S.length),some (.d (nI s)),a5,a6],rfl,?_⟩
  unfold rJ
  refine gO <| xU <| wY <| aG <| w_fld (k:=S.length) <| w_var (v:= .loc S.length) rfl ⟨_,_,rfl,hk,En,aG <| dP (d:= .int s) rfl <| cJ ⟨[.lst ((lZ gs).map nI), .int s],_,rfl,hcs,_,rfl,?_⟩⟩
  rw[List.map_map]
  refine(lJ (S:=TS S c ins gs os) (V3.d ∘ hW) (fun T=>(j2 safe c ins gs os T).map V3.d) (fun δ=>∃a5 a6,δ=[some (.d (bz ins gs os)),some (.d (nI m)),some (.d (.str (qz safe))),some (.loc S.length),some (.d (nI s)),a5,a6])
   ⟨_,_,rfl⟩ ?_).mono fun o S1 ⟨e1,h1⟩=>⟨e1,?_⟩
  ·rintro T hT δ ⟨a5,a6,rfl⟩
   refine⟨[some (.d (bz ins gs os)),some (.d (nI m)),some (.d (.str (qz safe))),some (.loc S.length),some (.d (nI s)),some (.d (hW T)),a6],rfl,?_⟩
   refine(AN NO hc hc1 ho hS).mono fun o S1 ⟨e1,h1⟩=>⟨e1,?_⟩
   cases htt:j2 safe c ins gs os T with
   | none=>rw [htt] at h1;obtain⟨δ2,e2',b6,e3⟩:=h1;exact⟨δ2,e2',_,b6,e3⟩
   | some d=>rw [htt] at h1;exact h1
  ·have hfs:(kf (lZ gs) s).findSome? (fun T=>(j2 safe c ins gs os T).map V3.d)=((kf (lZ gs) s).findSome? (j2 safe c ins gs os)).map V3.d:=by
    rw[List.map_findSome?];rfl
   rw[hfs] at h1
   cases htt:(kf (lZ gs) s).findSome? (j2 safe c ins gs os) with
   | none=>rw [htt] at h1;obtain⟨δ2,e2',b5,b6,e3⟩:=h1;exact⟨δ2,e2',_,b5,b6,e3⟩
   | some d=>rw [htt] at h1;exact h1
 ·subst e1
  have hfs:(List.range (m+1)).findSome? (fun s=>((kf (lZ gs) s).findSome? (j2 safe c ins gs os)).map V3.d)=((List.range (m+1)).findSome? fun s=>(kf (lZ gs) s).findSome? (j2 safe c ins gs os)).map V3.d:=by
   rw[List.map_findSome?];rfl
  rw[hfs] at h1
  unfold bears at h
  cases htt:(List.range (m+1)).findSome? fun s=>(kf (lZ gs) s).findSome? (j2 safe c ins gs os) with
  | none=>
    rw[htt] at h1 h
    obtain⟨δ2,rfl,b4,b5,b6,rfl⟩:=h1
    exact gu <| dP (d:=gc) rfl ⟨_,rfl,by unfold eO;rfl,⟨_,rfl⟩,_,by unfold res;rfl,h⟩
  | some d=>
    rw[htt] at h1 h
    subst h1
    exact⟨_,rfl,by unfold eO;rfl,⟨_,rfl⟩,_,by unfold res;rfl,h⟩
end
end K16
end
section
set_option maxRecDepth 100000
set_option maxHeartbeats 4000000
namespace K16
open PySem PySem.Spec PyProof.Rows L2 L3 MT
noncomputable abbrev BY:Str:=Str.ofString "abcdefghijklmnopqrstuvwxyz"
noncomputable abbrev ma:List Str:=[Str.ofString "in",Str.ofString "gate",Str.ofString "sure",Str.ofString "out",Str.ofString "not",Str.ofString "and",Str.ofString "or",Str.ofString "xor",Str.ofString "vote"]
noncomputable def cE(i:Nat):Str:=⟨#[97+i]⟩
theorem yD:BY.cps.toList=(List.range 26).map (97+·):=by decide+kernel
theorem CP:BY.length=26:=by decide+kernel
theorem An{i:Int}(h0:0≤i)(h:i < 26):cb (.str BY) (.int i)= .ok (.str (cE i.toNat)):=by
 have hz:sizeLine=16777216:=sizeLine_eq
 refine Bx (by rw[CP];omega) ?_
 rw[yD]
 rw[j3 h0 (by simp;omega)]
 simp
theorem Ak:∀i:Nat,i < 26→Txt.find BY (cE i)=(i:Int):=by decide+kernel
theorem fW(i:Nat):(cE i).length=1:=rfl
theorem k0(a b:Str):(a++b).length=a.length+b.length:=Str.length_append a b
theorem CO(p:Str)(i:Nat)(hp:p.length < 1000):cb (.str (p++cE i)) (.int (-1))= .ok (.str (cE i)):=by
 have hz:sizeLine=16777216:=sizeLine_eq
 refine Bx (by rw[k0,fW];omega) ?_
 rw[oZ]
 unfold oJ pW
 have hl:(p.cps.toList++(cE i).cps.toList).length=p.cps.toList.length+1:=by rw[List.length_append];rfl
 rw[if_neg (by omega),hl,if_pos (by omega)]
 show(p.cps.toList++(cE i).cps.toList)[((-1:Int)+((p.cps.toList.length+1:Nat):Int)).toNat]? =_
 rw[show((-1:Int)+((p.cps.toList.length+1:Nat):Int)).toNat=p.cps.toList.length by omega,List.getElem?_append_right (Nat.le_refl _),Nat.sub_self]
 rfl
theorem AM(p:Str)(i:Nat):Txt.slice (p++cE i) none (some (-1))=p:=by
 have h:=slice_closes_to_neg (x:=p++cE i) (j:= -1) (k:=p.length) (by omega) (by rw[k0,fW];omega) (by rw[k0,fW];omega)
 have e:=beq_iff_eq.mp h
 rw[e]
 refine C6 ?_
 show((p++cE i).cps.toList.drop 0).take ((p.length:Int) - 0).toNat=_
 rw[oZ,List.drop_zero,show((p.length:Int) - 0).toNat=p.cps.toList.length by simp [Str.length],List.take_left]
theorem Cg{p:Str}{i j:Nat}(h:p++cE i=p++cE j):i=j:=by
 have h1:(p++cE i).cps.toList=(p++cE j).cps.toList:=by rw[h]
 rw[oZ,oZ] at h1
 have h2:[97+i]=[97+j]:=List.append_cancel_left h1
 have h3:97+i=97+j:=by simpa using h2
 omega
theorem yy(ss:List Str)(hs:ss.length≤16)(p:Str)(c:Nat):∃t,t < 26∧¬(p++cE ((c+t) % 26))∈ss++ma:=by
 refine Classical.byContradiction fun hn=>?_
 have all:∀x∈(List.range 26).map (fun t=>p++cE ((c+t) % 26)),x∈ss++ma:=fun x hx=>by
  obtain⟨t,ht,rfl⟩:=List.mem_map.mp hx
  rw[List.mem_range] at ht
  refine Classical.byContradiction fun h=>hn ⟨t,ht,h⟩
 have nd:((List.range 26).map (fun t=>p++cE ((c+t) % 26))).Nodup:=by
  refine List.pairwise_map.mpr (List.Pairwise.imp_of_mem ?_ List.nodup_range)
  intro a b ha hb hab h
  rw[List.mem_range] at ha hb
  have:=Cg h
  exact hab (by omega)
 have:=L2.BM _ _ nd all
 rw[List.length_map,List.length_range,List.length_append] at this
 have hb:ma.length=9:=rfl
 omega
noncomputable def i9(k n:Nat)(many:V3)(kk nm j:Option V3):DE:=[some (.loc k),some many,some (.d (.str BY)),some (.d (.lst (ma.map .str))),some (.loc n),kk,nm,j]
theorem yh(x:Str)(ss:List Str):oM (.str x) (.lst (ss.map .str))= .ok (.bl (ss.contains x)):=by
 show((match strs? (ss.map D.str) with | some tt=>R.ok (tt.contains x) | none=> .no)).bind (fun b=>R.ok (D.bl b))=_
 rw[L2.strs_map];rfl
theorem CS{k n:Nat}{many:V3}{kk j:Option V3}{S:aN}{ss:List Str}{x:Str}(e:S[n]? =some (.lst (ss.map .str))) :
 bT (vE (b2 oM (af 6) (af 4)) (b2 oM (af 6) (af 3))) (i9 k n many kk (some (.d (.str x))) j) S= .ok (decide (x∈ss++ma)) S:=by
 have h4:(bX S (i9 k n many kk (some (.d (.str x))) j))[4]? =some (.val (.lst (ss.map .str))):=by
  unfold bX i9
  show some (match res S (.loc n) with | some d=>Sl.val d | none=> .un)=_
  unfold res
  simp only[e]
 have h3:(bX S (i9 k n many kk (some (.d (.str x))) j))[3]? =some (.val (.lst (ma.map .str))):=rfl
 have h6:(bX S (i9 k n many kk (some (.d (.str x))) j))[6]? =some (.val (.str x)):=rfl
 unfold bT
 generalize bX S (i9 k n many kk (some (.d (.str x))) j)=δ at h3 h4 h6
 have e1:b2 oM (af 6) (af 4) δ= .ok (ss.contains x):=iW (a:= .str x) (b:= .lst (ss.map .str)) (by unfold af;rw [h6]) (by unfold af;rw [h4]) (yh _ _)
 have e3:b2 oM (af 6) (af 3) δ= .ok (ma.contains x):=iW (a:= .str x) (b:= .lst (ma.map .str)) (by unfold af;rw [h6]) (by unfold af;rw [h3]) (yh _ _)
 have:vE (b2 oM (af 6) (af 4)) (b2 oM (af 6) (af 3)) δ= .ok (decide (x∈ss++ma)):=by
  unfold vE
  rw[e1,R.aH,e3]
  by_cases h:x∈ss
  ·rw[if_pos (by simpa using h),decide_eq_true (List.mem_append_left _ h)]
  ·rw[if_neg (by simpa using h)]
   congr 1
   by_cases h2:x∈ma
   ·rw[decide_eq_true (List.mem_append_right _ h2)];simpa using h2
   ·rw[decide_eq_false (fun z=>(List.mem_append.mp z).elim h h2)];simpa using h2
 rw[this]
 rfl
theorem DA{k n:Nat}{many:V3}{kk j:Option V3}{S:aN}{p:Str}{c:Nat}(hp:p.length < 500)(hc:c < 26) :
 W3 (gH (i9 k n many kk (some (.d (.str (p++cE c)))) j) S) fun o S1=>o= .nx (i9 k n many kk (some (.d (.str (p++cE ((c+1) % 26))))) j)∧S1=S:=by
 have hz:sizeLine=16777216:=sizeLine_eq
 unfold gH
 refine bY (by unfold i9;simp only[List.length_cons,List.length_nil];omega) (dP (d:= .str (p++cE ((c+1) % 26))) ?_ ⟨rfl,rfl⟩)
 refine ax (a:= .str p) (b:= .str (cE ((c+1) % 26))) ?_ ?_ (xh (by rw[fW];omega))
 ·refine Aq (d:= .str (p++cE c)) (lo:=none) (hi:=some (-1)) rfl rfl rfl ?_
  rw[Gj (by rw[k0,fW];omega),AM]
 ·refine ax (a:= .str BY) (b:= .int (((c:Int)+1) % 26)) rfl ?_ ?_
  ·refine ax (a:= .int ((c:Int)+1)) (b:= .int 26) (ax (a:= .int c) (b:= .int 1) ?_ rfl rfl) rfl (wK (by omega))
   refine Cc (x:=BY) (ds:=[.str (cE c)]) rfl (ay (ax (a:= .str (p++cE c)) (b:= .int (-1)) rfl rfl (CO p c (by omega))) rfl) ?_
   show R.ok (D.int (Txt.find BY (cE c)))=_
   rw[Ak c hc]
  ·rw[An (by omega) (by omega)]
   congr 3
theorem uB{k n:Nat}{many:V3}{kk j:Option V3}{S:aN}{ss:List Str}{p:Str}(hp:p.length < 500)(e:S[n]? =some (.lst (ss.map .str))) :
 ∀(m ex c:Nat),c < 26→(∃t,t < m∧¬(p++cE ((c+t) % 26))∈ss++ma)→
 W3 (kY (bT (vE (b2 oM (af 6) (af 4)) (b2 oM (af 6) (af 3)))) gH (m+ex) (i9 k n many kk (some (.d (.str (p++cE c)))) j) S) fun o S1=>∃c',c' < 26∧o= .nx (i9 k n many kk (some (.d (.str (p++cE c')))) j)∧S1=S
 | 0,_,_,_,⟨t,ht,_⟩=>by omega
 | m+1,ex,c,hc,⟨t,ht,hf⟩=>by
   rw[show m+1+ex=(m+ex)+1 by omega]
   unfold kY
   refine W3.bind (W3.eq (CS e) ?_)
   by_cases hx:(p++cE c)∈ss++ma
   ·rw[decide_eq_true hx,if_pos rfl]
    refine W3.bind ((DA hp hc).mono fun o S1 ⟨e1,e2'⟩=>?_)
    subst e1 e2'
    have ht0:t≠0:=fun z=>by subst z;rw [Nat.add_zero,Nat.mod_eq_of_lt hc] at hf;exact hf hx
    refine uB hp e m ex ((c+1) % 26) (by omega) ⟨t - 1,by omega,?_⟩
    rw[show((c+1) % 26+(t - 1)) % 26=(c+t) % 26 by omega]
    exact hf
   ·rw[decide_eq_false hx,if_neg (by decide)]
    exact W3.ok ⟨c,hc,rfl,rfl⟩
end K16
end
section
set_option maxRecDepth 100000
set_option maxHeartbeats 4000000
namespace K16
open PySem PySem.Spec PyProof.Rows L2 L3 MT
structure qH (k g:Nat) (L:List D) (S S1:aN):Prop where
 p:tG k S1
 len:S1.length=S.length
 oth:∀j,j≠k→j≠g→S1[j]? =S[j]?
 gl:S1[g]? =some (.lst L)
theorem qH.then{k g:Nat}{L:List D}{S S1 S2:aN}(a:qH k g L S S1)(h:g≠k)(b:Ev k S1 S2):qH k g L S S2:=⟨b.p,b.len.trans a.len,fun j h1 h2=>(b.oth j h1).trans (a.oth j h1 h2),(b.oth g h).trans a.gl⟩
theorem qH.put{k g:Nat}{L L':List D}{S S1:aN}(a:qH k g L S S1)(h:g≠k):qH k g L' S (S1.set g (.lst L')):=by
 obtain⟨hL,x,c,e⟩:=a.p
 exact⟨⟨hL.set _ (pN _),x,c,by rw[List.getElem?_set_ne h];exact e⟩,by rw[List.length_set];exact a.len,fun j h1 h2=>by rw[List.getElem?_set_ne (Ne.symm h2)];exact a.oth j h1 h2,mY a.gl⟩
theorem tG.push{k:Nat}{S:aN}(p:tG k S)(L:List D):tG k (S++[.lst L]):=by
 have h:=p.lt
 obtain⟨hL,a,c,e⟩:=p
 exact⟨hL.push (pN _),a,c,by rw[List.getElem?_append_left h];exact e⟩
theorem qH.so{k:Nat}{S:aN}(p:tG k S)(L:List D):qH k S.length L (S++[.lst L]) (S++[.lst L]):=⟨p.push L,rfl,fun _ _ _=>rfl,bO _ _⟩
noncomputable def qd:List Str:=[Str.ofString "",Str.ofString "",Str.ofString "zz",Str.ofString "qrst"]++ma
theorem BI(r:Int)(h0:0≤r)(h:r < 13):∃s:Str,s.length≤4∧cb (.lst (qd.map .str)) (.int r)= .ok (.str s):=by
 have hl:qd.length=13:=rfl
 have hlen:∀s∈qd,s.length≤4:=by decide+kernel
 refine⟨qd[r.toNat]'(by omega),hlen _ (List.getElem_mem _),pB ?_⟩
 rw[j3 h0 (by rw[List.length_map];omega)]
 simp
theorem yF{k n:Nat}{many:V3}{kk nm j:Option V3}{S S1:aN}{ss:List Str}(hn:n≠k)(hl:ss.length≤15)(E:qH k n (ss.map .str) S S1) :
 W3 (ja (i9 k n many kk nm j) S1) fun o S2=>∃δ2,o= .nx δ2∧(∃a b,δ2=i9 k n many kk a b)∧∃x:Str,qH k n ((ss++[x]).map .str) S S2:=by
 have hz:sizeLine=16777216:=sizeLine_eq
 unfold ja
 refine bu (bY (by unfold i9;simp only[List.length_cons,List.length_nil];omega) (CG (dP (d:= .lst (qd.map .str)) ?_ (draw (k:=k) rfl E.p rfl (by omega) (by omega) fun r S2 h1 h2 v2=>?_))))
 ·exact ax (a:= .lst ([Str.ofString "",Str.ofString "",Str.ofString "zz",Str.ofString "qrst"].map .str)) (b:= .lst (ma.map .str)) (eX (sO rfl (by simp;omega))) rfl (sR (by simp;omega))
 obtain⟨s,hs,es⟩:=BI r h1 h2
 refine⟨_,_,_,rfl,rfl,es,_,rfl,?_⟩
 have E2:=E.then hn v2
 show W3 (bN _ _ (i9 k n many kk (some (.d (.str s))) j) S2) _
 refine bu (gO (sF (A1 (k:=k) rfl E2.p (by omega) (by omega) fun r2 S3 h3 h4 v3=>⟨r2,rfl,by omega,?_⟩)))
 have E3:=E2.then hn v3
 refine(cz (fun i δ S4=>∃(x:Str) (a:Option V3),δ=i9 k n many kk (some (.d (.str x))) a∧x.length≤4+i∧(i=0∨∃p c,c < 26∧x=p++cE c)∧qH k n (ss.map .str) S S4)
  ⟨s,j,rfl,by omega, .inl rfl,E3⟩ ?_).mono fun o S4 ⟨δ4,e4,x,a,hδ,hx,hx2,E4⟩=>⟨δ4,e4,?_⟩
 ·rintro i v δ S4 hv ⟨x,a,rfl,hx,hx2,E4⟩
  refine⟨i9 k n many kk (some (.d (.str x))) (some v),rfl,?_⟩
  have hi:i < 10:=by
   have:=(List.getElem?_eq_some_iff.mp hv).1
   rw[List.length_map,cc,List.length_map,List.length_range] at this
   omega
  unfold lC
  refine bY (by unfold i9;simp only[List.length_cons,List.length_nil];omega) (DZ (dP (d:= .str x) rfl (CG (dP (d:= .str BY) rfl (draw (k:=k) rfl E4.p rfl (by omega) (by omega) fun r5 S5 h5 h6 v5=>?_)))))
  refine⟨_,_,_,rfl,rfl,An h5 h6,_,_, .str (x++cE r5.toNat),rfl,rfl,xh (by rw[fW];omega),_,rfl,x++cE r5.toNat,some v,rfl,by rw[k0,fW];omega, .inr ⟨x,r5.toNat,by omega,rfl⟩,E4.then hn v5⟩
 rw[List.length_map,cc,List.length_map,List.length_range] at hx hx2
 subst hδ
 obtain⟨p,c,hc,rfl⟩:∃p c,c < 26∧x=p++cE c:=hx2.resolve_left (by omega)
 have hp:p.length < 500:=by rw[k0,fW] at hx;omega
 refine bu ?_
 unfold wJ
 refine(uB (n:=n) (ss:=ss) hp E4.gl 26 974 c hc (yy ss (by omega) p c)).mono fun o S5 ⟨c',hc',e5,e6⟩=>⟨_,e5,?_⟩
 subst e6
 refine kM (k:=n) rfl ⟨_,E4.gl⟩ (dP (d:= .str (p++cE c')) rfl ⟨_,_,rfl,E4.gl,by rw[List.length_map];omega,_,rfl,⟨_,_,rfl⟩,p++cE c',?_⟩)
 rw[List.map_append]
 exact E4.put hn
theorem Aj{S:aN}{k:Nat}{m:Nat}(p:tG k S)(hm:m≤15){Q:V3→aN→Prop}(h:∀(ss:List Str) S1,ss.length=m→Ev k S S1→Q (.d (.lst (ss.map .str))) S1):W3 (gd [.loc k, .d (.int m)] S) Q:=by
 have hz:sizeLine=16777216:=sizeLine_eq
 have hk:=p.lt
 unfold gd
 refine tM (vq rfl ?_)
 simp only[bQ,i8,List.map_cons,List.map_nil,List.length_cons,List.length_nil,List.replicate,List.cons_append,List.nil_append,Nat.reduceAdd,Nat.reduceSub]
 unfold kO
 refine bu (bY (by simp only[List.length_cons,List.length_nil,List.length_set];omega) (dP (d:= .str BY) rfl ⟨_,rfl,?_⟩))
 simp only[List.set_cons_succ,List.set_cons_zero]
 refine bu (bY (by simp only[List.length_cons,List.length_nil,List.length_set];omega) (dP (d:= .lst (ma.map .str)) (eX (sO rfl (by simp;omega))) ⟨_,rfl,?_⟩))
 simp only[List.set_cons_succ,List.set_cons_zero]
 refine bu (bY (by simp only[List.length_cons,List.length_nil,List.length_set];omega) (jn (ds:=[]) rfl ⟨_,rfl,?_⟩))
 simp only[List.set_cons_succ,List.set_cons_zero]
 have g0:=qH.so p []
 have hgk:S.length≠k:=by omega
 refine bu (gO (k7 (d9 (n:=m) rfl (by omega)) ?_))
 refine(cz (fun i δ S4=>(∃a b c,δ=i9 k S.length (.d (.int m)) a b c)∧∃ss:List Str,ss.length=i∧qH k S.length (ss.map .str) (S++[SO.lst []]) S4) ⟨⟨_,_,_,rfl⟩,[],rfl,g0⟩ ?_).mono fun o S4 ⟨δ4,e4,⟨a,b,c,hδ⟩,ss,hl,g4⟩=>⟨δ4,e4,?_⟩
 ·rintro i v δ S4 hv ⟨⟨a,b,c,rfl⟩,ss,hl,g4⟩
  have hi:i < 15:=by
   have:=(List.getElem?_eq_some_iff.mp hv).1
   rw[List.length_map,cc,List.length_map,List.length_range] at this
   omega
  refine⟨i9 k S.length (.d (.int m)) (some v) b c,rfl,?_⟩
  exact(yF hgk (by omega) g4).mono fun o S5 ⟨δ5,e5,⟨a5,b5,h5⟩,x,g5⟩=>⟨δ5,e5,⟨some v,a5,b5,h5⟩,ss++[x],by simp [hl],g5⟩
 rw[List.length_map,cc,List.length_map,List.length_range] at hl
 subst hδ
 unfold i9
 refine gu (w_var rfl ⟨_,rfl,g4.p.1,?_, .lst (ss.map .str),?_,?_⟩)
 ·unfold eO;exact decide_eq_true (Nat.le_refl _)
 ·unfold res;simp only[g4.gl]
 ·refine h ss _ hl ⟨⟨g4.p.1.take _,?_⟩,?_,?_⟩
  ·obtain⟨_,a,c,e⟩:=g4.p
   exact⟨a,c,by rw[List.getElem?_take_of_lt hk];exact e⟩
  ·have:=g4.len
   rw[List.length_append,List.length_singleton] at this
   rw[List.length_take];omega
  ·intro j hj
   by_cases hjl:j < S.length
   ·rw[List.getElem?_take_of_lt hjl,g4.oth _ hj (by omega),List.getElem?_append_left hjl]
   ·have:=g4.len
    rw[List.length_append,List.length_singleton] at this
    rw[List.getElem?_eq_none (by rw[List.length_take];omega),List.getElem?_eq_none (by omega)]
end K16
end
section
set_option maxRecDepth 100000
set_option maxHeartbeats 4000000
namespace K16
open PySem PySem.Spec PyProof.Rows L2 L3 MT
theorem lU{n i:Nat}{d:D}(h:(cc 0 n)[i]? =some d):i < n∧d= .int i:=by
 rw[cc,List.getElem?_map] at h
 cases q:(List.range n)[i]? with
 | none=>rw [q] at h;cases h
 | some j=>
   rw[q] at h;cases h
   obtain⟨q1,q2⟩:=List.getElem?_eq_some_iff.mp q
   rw[List.getElem_range] at q2
   rw[List.length_range] at q1
   subst q2
   exact⟨q1,by simp⟩
theorem Gu{ds:List D}{i:Nat}{x:D}(h:ds[i]? =some x):oJ ds (i:Int)=some x:=by
 obtain⟨h1,h2⟩:=List.getElem?_eq_some_iff.mp h
 rw[j3 (by omega) (by rw[Int.toNat_natCast];exact h1)]
 simp [h2]
section
variable {gs:List Gt}
end
section
variable {S:aN} {δ:DE} {k q i:Nat} {ks:List Int}
theorem D8{Q:V3→aN→Prop}{f:FD}{m:Int}(hv:δ[i]? =some (some (.loc k)))(p:tG k S)(hf:f (bX S δ)= .ok (.int m))(hm:0 < m)(hm2:m < 1000000)
 (h:∀(r:Int) S1,0≤r→r < m→Ev k S S1→Q (.d (.int r)) S1):W3 (dc bq (aA (cF i) (aA (xT f) cR)) δ S) Q:=
 eD (aG (w_var hv (aG (xc hf rfl (cJ (sY p hm (qX hm hm2) h))))))
theorem kW{ds:List D}(e:S[q]? =some (.lst ds)):res S (.loc q)=some (.lst ds):=by unfold res;rw [e]
theorem nE(e:S[q]? =some (.lst (ks.map .int)))(hi:δ[i]? =some (some (.loc q))):aK dz (aj (af i) aI) (bX S δ)= .ok (.int ks.length):=by
 refine aM (ds:=[.lst (ks.map .int)]) (ay ?_ rfl) (by rw[lh,List.length_map])
 unfold af bX
 rw[List.getElem?_map,hi]
 show(match some (match res S (.loc q) with | some d=>Sl.val d | none=> .un) with | some (.val d)=>R.ok d | _=> .no)=_
 rw[kW e]
end
noncomputable def D3:List D:=[.str (Str.ofString "not"), .str (Str.ofString "and"), .str (Str.ofString "or"), .str (Str.ofString "xor"), .str (Str.ofString "vote"), .str (Str.ofString "xor"), .str (Str.ofString "and")]
noncomputable def IA:List (Key × V):=[((Sum.inr (Str.ofString "not"):Key),V.int 1),((Sum.inr (Str.ofString "vote"):Key),V.int 3)]
theorem DW(r:Nat)(h:r < 7):∃kd,kd≤4∧cb (.lst D3) (.int r)= .ok (.str (kS kd))∧(match kG (i_ [] IA) (Sum.inr (kS kd)) with | some (.int i)=>R.ok (D.int i) | none=> .ok (.int 2) | _=> .no)= .ok (.int (ar kd)):=by
 match r,h with
 | 0,_=>exact⟨0,by omega,rfl,rfl⟩
 | 1,_=>exact⟨1,by omega,rfl,rfl⟩
 | 2,_=>exact⟨2,by omega,rfl,rfl⟩
 | 3,_=>exact⟨3,by omega,rfl,rfl⟩
 | 4,_=>exact⟨4,by omega,rfl,rfl⟩
 | 5,_=>exact⟨3,by omega,rfl,rfl⟩
 | 6,_=>exact⟨1,by omega,rfl,rfl⟩
theorem Fv{S:aN}{δ:DE}{i o:Nat}{ws:List Nat}(hi:δ[i]? =some (some (.loc o)))(e:S[o]? =some (.lst (ws.map nI))):aK fg (aj (af i) aI) (bX S δ)= .ok (.tup (ws.map nI)):=by
 refine aM (ds:=[.lst (ws.map nI)]) (ay ?_ rfl) rfl
 unfold af bX
 rw[List.getElem?_map,hi]
 show(match some (match res S (.loc o) with | some d=>Sl.val d | none=> .un) with | some (.val d)=>R.ok d | _=> .no)=_
 rw[kW e]
theorem pU(ws:List Nat):ka (.tup (ws.map nI))=true:=by
 unfold ka
 induction ws with
 | nil=>unfold mC;rfl
 | cons w ws ih=>rw [List.map_cons];unfold mC;rw [ih];rfl
noncomputable def Ka{S:aN}{k:Nat}{d:D}{Q:V3→aN→Prop}(h:∀S1,Ev k S S1→Q (.d d) S1){S2:aN}{L:List D}{g:Nat}(E:qH k g L (S++[SO.lst []]) S2)(hg:g=S.length)(hk:k < S.length):Flat S2∧eO S.length (.d d)=true∧∃d',res S2 (.d d)=some d'∧Q (.d d') (S2.take S.length):=by
 subst hg
 refine⟨E.p.1,by unfold eO;rfl,d,by unfold res;rfl,h _ ⟨⟨E.p.1.take _,?_⟩,?_,?_⟩⟩
 ·obtain⟨_,a,c,e⟩:=E.p
  exact⟨a,c,by rw[List.getElem?_take_of_lt hk];exact e⟩
 ·have:=E.len
  rw[List.length_append,List.length_singleton] at this
  rw[List.length_take];omega
 ·intro j hj
  by_cases hjl:j < S.length
  ·rw[List.getElem?_take_of_lt hjl,E.oth _ hj (by omega),List.getElem?_append_left hjl]
  ·have:=E.len
   rw[List.length_append,List.length_singleton] at this
   rw[List.getElem?_eq_none (by rw[List.length_take];omega),List.getElem?_eq_none (by omega)]
noncomputable def Ip(k q o:Nat)(ms kd mn:D)(a6 a7 a8:Option V3):DE:=[some (.loc k),some (.loc q),some (.d ms),some (.d kd),some (.d mn),some (.loc o),a6,a7,a8]
theorem yT{S:aN}{k q:Nat}{ks:List Int}{ms:Int}(p:tG k S)(hq:q≠k)(e:S[q]? =some (.lst (ks.map .int)))(h0:0 < ks.length)(hn:ks.length < 10000){Q:V3→aN→Prop}(h:∀g S1,nA ks.length g→Ev k S S1→Q (.d (gp g)) S1) :
 W3 (gT [.loc k, .loc q, .d (.int ms)] S) Q:=by
 have hz:sizeLine=16777216:=sizeLine_eq
 have hk:=p.lt
 have hql:q < S.length:=(List.getElem?_eq_some_iff.mp e).1
 unfold gT
 refine tM (vq rfl ?_)
 simp only[bQ,jU,List.map_cons,List.map_nil,List.length_cons,List.length_nil,List.replicate,List.cons_append,List.nil_append,Nat.reduceAdd,Nat.reduceSub]
 unfold lP
 refine bu <| bY (by simp only[List.length_cons,List.length_nil,List.length_set];omega) <| CG <| dP (d:= .lst D3) rfl <| draw (k:=k) rfl p rfl (by omega) (by omega) fun r S1 h1 h2 v1=>?_
 obtain⟨kd,hkd,e1,e2'⟩:=DW r.toNat (by omega)
 rw[Int.toNat_of_nonneg h1] at e1
 refine⟨_,_,_,rfl,rfl,e1,_,rfl,?_⟩
 simp only[List.set_cons_succ,List.set_cons_zero]
 refine bu <| bY (by simp only[List.length_cons,List.length_nil,List.length_set];omega) <| dP (d:= .int (ar kd)) e2' ⟨_,rfl,?_⟩
 simp only[List.set_cons_succ,List.set_cons_zero]
 refine bu <| bY (by simp only[List.length_cons,List.length_nil,List.length_set];omega) <| jn (ds:=[]) rfl ⟨_,rfl,?_⟩
 simp only[List.set_cons_succ,List.set_cons_zero]
 have har:=w9 kd
 have hl1:=v1.len
 have E1:=qH.so v1.p []
 have hok:S1.length≠k:=by omega
 have eq1:S1[q]? =some (.lst (ks.map .int)):=by rw[v1.oth q hq];exact e
 refine bu <| gO <| k7 (d9 (n:=ar kd) rfl (by omega)) ?_
 refine(cz (fun i δ S2=>(∃a b c,δ=Ip k q S1.length (.int ms) (.str (kS kd)) (.int (ar kd)) a b c)∧∃ws:List Nat,ws.length=i∧(∀w∈ws,w < ks.length)∧qH k S1.length (ws.map nI) (S1++[SO.lst []]) S2)
  ⟨⟨_,_,_,rfl⟩,[],rfl,by simp,E1⟩ ?_).mono fun o S2 ⟨δ2,e3,⟨a,b,c,hδ⟩,ws,hwl,hws,E2⟩=>⟨δ2,e3,?_⟩
 ·rintro i v δ S2 hv ⟨⟨a,b,c,rfl⟩,ws,hwl,hws,E2⟩
  have hi:i < 3:=by
   have:=(List.getElem?_eq_some_iff.mp hv).1
   rw[List.length_map,cc,List.length_map,List.length_range] at this
   omega
  refine⟨Ip k q S1.length (.int ms) (.str (kS kd)) (.int (ar kd)) (some v) b c,rfl,?_⟩
  unfold mQ Ip
  refine bu <| bY (by simp only[List.length_cons,List.length_nil,List.length_set];omega) <| draw (k:=k) rfl E2.p rfl (by omega) (by omega) fun r3 S3 h3 h4 v3=>⟨_,rfl,?_⟩
  simp only[List.set_cons_succ,List.set_cons_zero]
  have E3:=E2.then hok v3
  have eq3:S3[q]? =some (.lst (ks.map .int)):=by rw[E3.oth q hq (by omega),List.getElem?_append_left (by omega)];exact eq1
  refine bu <| bY (by simp only[List.length_cons,List.length_nil,List.length_set];omega) <| D8 (k:=k) rfl E3.p (nE eq3 rfl) (by omega) (by omega) fun r4 S4 h5 h6 v4=>⟨_,rfl,?_⟩
  simp only[List.set_cons_succ,List.set_cons_zero]
  have E4:=E3.then hok v4
  have eq4:S4[q]? =some (.lst (ks.map .int)):=by rw[E4.oth q hq (by omega),List.getElem?_append_left (by omega)];exact eq1
  refine bu ?_
  have kc:W3 (Dw (bP (b2 jA (af 7) (eC (.int 1)))) (dh 8 (xT (e2 jr (e2 jr (aK dz (aj (af 1) aI)) (eC (.int 1))) (e2 gQ (af 8) (aK rL (aj (aK dz (aj (af 1) aI)) (aj (eC (.int 4)) aI))))))) ve
   [some (.loc k),some (.loc q),some (.d (.int ms)),some (.d (.str (kS kd))),some (.d (.int (ar kd))),some (.loc S1.length),some v,some (.d (.int r3)),some (.d (.int r4))] S4)
   fun o S5=>S5=S4∧∃w:Nat,w < ks.length∧o= .nx [some (.loc k),some (.loc q),some (.d (.int ms)),some (.d (.str (kS kd))),some (.d (.int (ar kd))),some (.loc S1.length),some v,some (.d (.int r3)),some (.d (nI w))]:=by
   refine wz (Ct (b:=decide (r3=1)) rfl ?_)
   by_cases hr:r3=1
   ·rw[decide_eq_true hr,if_pos rfl]
    have hmn:∃mn:Int,0 < mn∧mn≤ks.length∧rL [.int ks.length, .int 4]= .ok (.int mn):=⟨if(4:Int) < ks.length then 4 else ks.length,by split <;> omega,by split <;> omega,rfl⟩
    obtain⟨mn,m1,m2,m3⟩:=hmn
    have b1:0≤r4 % mn:=Int.emod_nonneg _ (by omega)
    have b2':r4 % mn < mn:=Int.emod_lt_of_pos _ m1
    refine bY (by simp only[List.length_cons,List.length_nil,List.length_set];omega) (xc (d:=nI ((ks.length:Int) - 1 - r4 % mn).toNat) ?_ rfl ⟨rfl,((ks.length:Int) - 1 - r4 % mn).toNat,by omega,rfl⟩)
    refine ax (a:= .int ((ks.length:Int) - 1)) (b:= .int (r4 % mn)) (ax (a:= .int ks.length) (b:= .int 1) (nE eq4 rfl) rfl rfl) (ax (a:= .int r4) (b:= .int mn) rfl (aM (ds:=[.int ks.length, .int 4]) (ay (nE eq4 rfl) rfl) m3) (wK m1)) ?_
    show R.ok (D.int ((ks.length:Int) - 1 - r4 % mn))=R.ok (D.int ((((ks.length:Int) - 1 - r4 % mn).toNat:Nat):Int))
    rw[Int.toNat_of_nonneg (by omega)]
   ·rw[decide_eq_false hr,if_neg (by decide)]
    refine ph ⟨rfl,r4.toNat,by omega,?_⟩
    unfold nI
    rw[Int.toNat_of_nonneg h5]
  refine kc.mono fun o S5 ⟨e5,w,hw,eo⟩=>⟨_,eo,?_⟩
  subst e5
  refine kM (k:=S1.length) rfl ⟨_,E4.gl⟩ (dP (d:=nI w) rfl ⟨_,_,rfl,E4.gl,by rw[List.length_map];omega,_,rfl,⟨_,_,_,rfl⟩,ws++[w],by simp [hwl],?_,?_⟩)
  ·intro x hx
   rcases List.mem_append.mp hx with z | z
   ·exact hws x z
   ·rw[List.mem_singleton] at z;subst z;exact hw
  ·rw[List.map_append]
   exact E4.put hok
 rw[List.length_map,cc,List.length_map,List.length_range] at hwl
 subst hδ
 unfold Ip
 refine gu <| rj <| aG <| dP (d:= .str (kS kd)) rfl <| aG <| xc (d:= .tup (ws.map nI)) (Fv rfl E2.gl) (pU ws) <| aG <| DZ <| draw (k:=k) rfl E2.p rfl (by omega) (by omega) fun r6 S6 h7 h8 v6=>dP (d:= .int ms) rfl ⟨_,_, .bl (decide (r6 < ms)),rfl,rfl,rfl,cJ ⟨by simp;omega,_,rfl,?_⟩⟩
 have E6:=E2.then hok v6
 show Flat S6∧eO S.length (.d (gp (kd,ws,decide (r6 < ms))))=true∧∃d',res S6 (.d (gp (kd,ws,decide (r6 < ms))))=some d'∧_
 have hl6:S6.length=S.length+1:=by rw[E6.len];simp [hl1]
 refine⟨E6.p.1,by unfold eO;rfl,_,by unfold res;rfl,h _ _ ⟨hkd,hwl,hws⟩ ⟨⟨E6.p.1.take _,?_⟩,by rw[List.length_take];omega,fun j hj=>?_⟩⟩
 ·obtain⟨_,a,c,e⟩:=E6.p
  exact⟨a,c,by rw[List.getElem?_take_of_lt hk];exact e⟩
 ·by_cases hjl:j < S.length
  ·rw[List.getElem?_take_of_lt hjl,E6.oth _ hj (by omega),List.getElem?_append_left (by omega)]
   exact v1.oth j hj
  ·rw[List.getElem?_eq_none (by rw[List.length_take];omega),List.getElem?_eq_none (by omega)]
end K16
end
section
set_option maxRecDepth 100000
set_option maxHeartbeats 4000000
namespace K16
open PySem PySem.Spec PyProof.Rows L2 L3 MT
noncomputable abbrev f0:M:=fun _=>false
theorem A7{ws:List M}{b:M}{n:Nat}:iY (ws++[b]) n=if n < ws.length then iY ws n else if n=ws.length then b else f0:=by
 by_cases q:n < ws.length
 ·rw[if_pos q,oX q]
 ·rw[if_neg q]
  by_cases r:n=ws.length
  ·rw[if_pos r,r,pR]
  ·rw[if_neg r]
   unfold iY
   rw[List.getD_eq_getElem?_getD,List.getElem?_eq_none (by simp;omega)];rfl
section
variable {ins:List (Str × Nat)} {gs:List Gt} {ms ms':List M} {t bad:List Int} {p q:Nat}
noncomputable def uC(p q:Nat)(ws ws':List M):Prop:=ws.length=ws'.length∧∀n,iY ws n p=iY ws' n q
theorem uC.app{ws ws':List M}{b b':M}(h:uC p q ws ws')(hb:b p=b' q):uC p q (ws++[b]) (ws'++[b']):=by
 refine⟨by rw[List.length_append,List.length_append,h.1];rfl,fun n=>?_⟩
 rw[A7,A7,h.1]
 by_cases r:n < ws'.length
 ·rw[if_pos r,if_pos r];exact h.2 n
 ·rw[if_neg r,if_neg r]
  by_cases r2:n=ws'.length
  ·rw[if_pos r2,if_pos r2];exact hb
  ·rw[if_neg r2,if_neg r2]
theorem uC.row{b b':M}(hb:b p=b' q):∀m {ws ws':List M},uC p q ws ws'→uC p q (fN bad b m ws) (fN bad b' m ws')
 | 0,ws,ws',h=>h
 | m+1,ws,ws',h=>by
   have ih:=uC.row hb m h
   unfold fN
   refine ih.app ?_
   rw[hb,ih.1]
theorem uC.J1(h1:ms.length=ins.length)(h2:ms'.length=ins.length)(h:∀j,j < ins.length→ms.getD j f0 p=ms'.getD j f0 q):∀i,i≤ins.length→uC p q (cT ins ms bad i) (cT ins ms' bad i)
 | 0,_=>⟨rfl,fun n=>rfl⟩
 | i+1,hi=>by
   have e1:ms[i]? =some ms[i]:=List.getElem?_eq_getElem (by omega)
   have e2:ms'[i]? =some ms'[i]:=List.getElem?_eq_getElem (by omega)
   have hh:=h i (by omega)
   rw[List.getD_eq_getElem?_getD,e1,List.getD_eq_getElem?_getD,e2] at hh
   unfold cT
   rw[List.getElem?_eq_getElem (by omega:i < ins.length),e1,e2]
   exact uC.row hh _ (uC.J1 h1 h2 h i (by omega))
theorem uC.Eb{w0 w0':List M}(h:uC p q w0 w0'):∀i,i≤gs.length→uC p q (kK gs t w0 i) (kK gs t w0' i)
 | 0,_=>h
 | i+1,hi=>by
   have ih:=uC.Eb h i (by omega)
   unfold kK
   rw[List.getElem?_eq_getElem (by omega:i < gs.length)]
   refine ih.app ?_
   show(gF gs[i] (kK gs t w0 i) p !=t.contains (i:Int))=(gF gs[i] (kK gs t w0' i) q !=t.contains (i:Int))
   unfold gF
   have:(gs[i].2.1.map fun n=>iY (kK gs t w0 i) n p)=gs[i].2.1.map fun n=>iY (kK gs t w0' i) n q:=List.map_congr_left fun n _=>ih.2 n
   rw[this]
theorem G1(h1:ms.length=ins.length)(h2:ms'.length=ins.length)(h:∀j,j < ins.length→ms.getD j f0 p=ms'.getD j f0 q)(n:Nat):iY (jm ins gs ms t bad) n p=iY (jm ins gs ms' t bad) n q:=
 (uC.Eb (uC.J1 h1 h2 h _ (Nat.le_refl _)) _ (Nat.le_refl _)).2 n
end
noncomputable def cM(b:Bool):M:=fun _=>b
theorem IW(f:M):mI 1 f=bI (f 0):=by
 unfold mI bI ig ig
 cases f 0 <;> rfl
section
variable {c:Nat} {ins:List (Str × Nat)} {gs:List Gt} {os:List (Str × List Nat)} {S:aN} {T:List Int}
theorem F6{bits:List Bool}{p n:Nat}(hc:ins.length=c)(hp:(bx c)[p]? =some bits):iY (jm ins gs (bits.map cM) T []) n 0=iY (Wd c ins gs T []) n p:=by
 have hbl:=ib c bits (List.mem_of_getElem? hp)
 refine G1 (by rw[List.length_map,hbl,hc]) (by rw[qh,hc]) (fun j hj=>?_) n
 rw[hc] at hj
 unfold qR
 rw[List.getD_eq_getElem?_getD,List.getElem?_map,List.getElem?_eq_getElem (by omega:j < bits.length),List.getD_eq_getElem?_getD,List.getElem?_map,List.getElem?_range hj]
 show bits[j]=He c j p
 unfold He
 rw[List.getD_eq_getElem?_getD (l:=bx c),hp]
 show _=bits.getD j false
 rw[List.getD_eq_getElem?_getD,List.getElem?_eq_getElem (by omega:j < bits.length)]
 rfl
noncomputable def tD(r:Bool × Bool):D:=if r.1 then .int 0 else if r.2 then .int 1 else .dk
theorem uW{kd:Nat}{xs:List Bool}(hk:kd≤4)(hx:xs.length=ar kd):eP [.str (kS kd), .lst (xs.map bI)]= .ok (bI (gv kd xs)):=by
 match kd,hk,xs,hx with
 | 0,_,[a],_=>cases a <;> rfl
 | 1,_,[a,b],_=>cases a <;> cases b <;> rfl
 | 2,_,[a,b],_=>cases a <;> cases b <;> rfl
 | 3,_,[a,b],_=>cases a <;> cases b <;> rfl
 | 4,_,[a,b,c],_=>cases a <;> cases b <;> cases c <;> rfl
theorem u_{xs:List Bool}(h:1≤xs.length∧xs.length≤3):iJ [.lst (xs.map bI)]= .ok (tD (zm xs)):=by
 match xs,h with
 | [a],_=>cases a <;> rfl
 | [a,b],_=>cases a <;> cases b <;> rfl
 | [a,b,c],_=>cases a <;> cases b <;> cases c <;> rfl
theorem xN{ws:List M}{ns:List Nat}{δ:av}{own:List Str}{kp:List Nat}{it:av→R (List D)}(hn:∀n∈ns,n < ws.length)(hl:ns.length < 1000)(hit:it δ= .ok (ns.map nI))(hkp:oH own kp δ=[.un, .val (.lst (ws.map (mI 1)))]) :
 fu it (aJ 0) jH (e2 cb (af 1) (af 0)) own kp δ= .ok ((ns.map fun n=>iY ws n 0).map bI):=by
 have hz:sizeLine=16777216:=sizeLine_eq
 refine eu hit (by rw[List.length_map];omega) ?_
 rw[hkp,List.map_map]
 refine NT.cO nI _ fun n hn'=>⟨[.val (nI n), .val (.lst (ws.map (mI 1)))],rfl,rfl,?_⟩
 refine(ax (a:= .lst (ws.map (mI 1))) (b:=nI n) rfl rfl (Ai (hn n hn'))).trans ?_
 rw[IW];rfl
theorem DV(b c:Bool):(eE (bI b) (.int (if c then 1 else 0))).bind (fun x=>gQ x (.int 2))= .ok (bI (b !=c)):=by cases b <;> cases c <;> rfl
theorem zI(c:Bool):pJ [.bl c]= .ok (.int (if c then 1 else 0)):=rfl
theorem xu{f g:FD}{δ:av}{b c:Bool}(hf:f δ= .ok (bI b))(hg:g δ= .ok (.int (if c then 1 else 0))):e2 gQ (e2 eE f g) (eC (.int 2)) δ= .ok (bI (b !=c)):=by
 rw[←DV]
 unfold e2
 rw[hf,R.aH,hg,R.aH]
 cases b <;> cases c <;> rfl
noncomputable def jN(nt bitsD tD bD:D)(ws:List M)(a5 a6 a7 a8 a9 a10 a11:Sl):av:=[.val nt, .val bitsD, .val tD, .val bD, .bld (ws.map (mI 1)),a5,a6,a7,a8,a9,a10,a11]
theorem DM{bits:List Bool}{i:Nat}(h:i < bits.length):cb (.tup (bits.map bI)) (.int i)= .ok (bI bits[i]):=NT.C7 (by rw[List.getElem?_map,List.getElem?_eq_getElem h];rfl)
theorem JO{bits:List Bool}{bad:List Int}{nt tD:D}{ws:List M}{i:Nat}{a6 a7 a8 a9 a10 a11:Sl}(hi:i < bits.length)(hl:ws.length < 20000) :
 gM (jN nt (.tup (bits.map bI)) tD (.tup (bad.map .int)) ws (.val (.int i)) a6 a7 a8 a9 a10 a11)= .ok (.nx (jN nt (.tup (bits.map bI)) tD (.tup (bad.map .int)) (ws++[fun p=>cM bits[i] p !=bad.contains (ws.length:Int)]) (.val (.int i)) a6 a7 a8 a9 a10 a11)):=by
 have hz:sizeLine=16777216:=sizeLine_eq
 unfold gM
 refine(sU (i:=4) (d:=bI (bits[i] !=bad.contains (ws.length:Int))) (ds:=ws.map (mI 1)) ?_ rfl (by rw[List.length_map];omega)).trans ?_
 ·refine xu (ax (a:= .tup (bits.map bI)) (b:= .int i) rfl rfl (DM hi)) ?_
  refine aM (ds:=[.bl (bad.contains (ws.length:Int))]) (ay (t8 ?_ rfl) rfl) (zI _)
  exact ax (a:= .int ws.length) (b:= .tup (bad.map .int)) (aM (ds:=[.lst (ws.map (mI 1))]) rfl (by rw[lh,List.length_map])) rfl (o9 _ _)
 ·unfold jN
  rw[List.map_append,List.map_cons,IW]
  rfl
section
variable {bits:List Bool} {bad:List Int}
theorem zw(NO:g8 ins gs os)(hb:bits.length=ins.length)(i:Nat)(hi:i≤ins.length):(cT ins (bits.map cM) bad i).length≤100*i:=by
 rw[iL (by rw[List.length_map,hb]) i hi]
 refine Nat.le_trans (tm fun x hx=>NO.hw x (List.mem_of_mem_take hx)) ?_
 rw[List.length_take]
 exact Nat.mul_le_mul_left _ (by omega)
theorem Iy(NO:g8 ins gs os)(hb:bits.length=ins.length){tD:D}{i:Nat}{a6 a7 a8 a9 a10 a11:Sl}(hi:i < ins.length) :
 ∃b6,gK (jN (bz ins gs os) (.tup (bits.map bI)) tD (.tup (bad.map .int)) (cT ins (bits.map cM) bad i) (.val (.int i)) a6 a7 a8 a9 a10 a11)= .ok (.nx (jN (bz ins gs os) (.tup (bits.map bI)) tD (.tup (bad.map .int)) (cT ins (bits.map cM) bad (i+1)) (.val (.int i)) b6 a7 a8 a9 a10 a11)):=by
 have hwi:=NO.hw ins[i] (List.getElem_mem _)
 have hN:=NO.hi
 have hb':i < bits.length:=by omega
 have h1:ins[i]? =some ins[i]:=List.getElem?_eq_getElem hi
 have h2:(bits.map cM)[i]? =some (cM bits[i]):=by rw[List.getElem?_map,List.getElem?_eq_getElem hb'];rfl
 unfold gK
 obtain⟨δ',e,b6,hδ⟩:=fT (t:=aJ 6) (body:=gM) (ds:=cc 0 ins[i].2) (fun j δ=>∃b6,δ=jN (bz ins gs os) (.tup (bits.map bI)) tD (.tup (bad.map .int)) (fN bad (cM bits[i]) j (cT ins (bits.map cM) bad i)) (.val (.int i)) b6 a7 a8 a9 a10 a11)
  (δ:=jN (bz ins gs os) (.tup (bits.map bI)) tD (.tup (bad.map .int)) (cT ins (bits.map cM) bad i) (.val (.int i)) a6 a7 a8 a9 a10 a11) ⟨a6,rfl⟩ (fun j d δ hd ⟨b6,hδ⟩=>by
    subst hδ
    obtain⟨hj,rfl⟩:=lU hd
    have:=zw (bad:=bad) NO hb i (by omega)
    exact⟨_,JO (a6:= .val (.int j)) hb' (by rw[fP];omega),_,rfl⟩)
 refine⟨b6,(gn (ds:=cc 0 ins[i].2) (d9 ?_ (by omega)) e).trans ?_⟩
 ·exact ax (a:=inD ins[i]) (b:= .int 1) (ax (a:= .lst (ins.map inD)) (b:= .int i) (ax (a:=bz ins gs os) (b:= .int 0) rfl rfl rfl) rfl (NT.iX (by rw[List.getElem?_map,h1];rfl))) rfl rfl
 ·rw[hδ]
  have hl:(cc 0 ins[i].2).length=ins[i].2:=by simp [cc]
  rw[hl]
  have:cT ins (bits.map cM) bad (i+1)=fN bad (cM bits[i]) ins[i].2 (cT ins (bits.map cM) bad i):=by
   show(match ins[i]?,(bits.map cM)[i]? with | some x,some b=>fN bad b x.2 (cT ins (bits.map cM) bad i) | _,_=>cT ins (bits.map cM) bad i)=_
   rw[h1,h2]
  rw[this]
theorem IU{bD:D}{bitsD:D}{ws:List M}{i:Nat}{g:Gt}{a5 a6 a8 a9 a10 a11:Sl}(q:gs[i]? =some g)(hg:nA ws.length g)(hl:ws.length < 200000) :
 ∃b8 b9 b10 b11,gL (jN (bz ins gs os) bitsD (.tup (T.map .int)) bD ws a5 a6 (.val (.int i)) a8 a9 a10 a11)= .ok (.nx (jN (bz ins gs os) bitsD (.tup (T.map .int)) bD (ws++[fun p=>gF g ws p !=T.contains (i:Int)]) a5 a6 (.val (.int i)) b8 b9 b10 b11)):=by
 have hz:sizeLine=16777216:=sizeLine_eq
 have ha:=w9 g.1
 unfold gL
 refine⟨.val (.str (kS g.1)), .val (.tup (g.2.1.map nI)), .val (.bl g.2.2), .val (bI (gF g ws 0)),?_⟩
 refine bA (δ1:=jN (bz ins gs os) bitsD (.tup (T.map .int)) bD ws a5 a6 (.val (.int i)) (.val (.str (kS g.1))) (.val (.tup (g.2.1.map nI))) (.val (.bl g.2.2)) a11) ?_ ?_
 ·unfold oI
  rw[ax (a:= .lst (gs.map gp)) (b:= .int i) (ax (a:=bz ins gs os) (b:= .int 1) rfl rfl rfl) rfl (NT.iX (x:=gp g) (by rw[List.getElem?_map,q];rfl)),R.aH]
  rfl
 refine bA (fI (d:=bI (gF g ws 0)) (t8 ?_ rfl) (by unfold jN;simp only[List.length_cons,List.length_nil];omega)) ?_
 ·refine aM (ds:=[.str (kS g.1), .lst ((g.2.1.map fun n=>iY ws n 0).map bI)]) (ay rfl (ay (eX ?_) rfl)) (uW hg.1 (by rw[List.length_map];exact hg.2.1))
  exact xN (ws:=ws) (ns:=g.2.1) hg.2.2 (by rw[hg.2.1];omega) (si rfl) rfl
 refine(sU (i:=4) (d:=bI (gF g ws 0 !=T.contains (i:Int))) (ds:=ws.map (mI 1)) ?_ rfl (by rw[List.length_map];omega)).trans ?_
 ·exact xu rfl (aM (ds:=[.bl (T.contains (i:Int))]) (ay (ax (a:= .int i) (b:= .tup (T.map .int)) rfl rfl (o9 _ _)) rfl) (zI _))
 ·unfold jN
  rw[List.map_append,List.map_cons,IW]
  rfl
theorem yW(NO:g8 ins gs os)(hb:bits.length=ins.length):fO [bz ins gs os, .tup (bits.map bI), .tup (T.map .int), .tup (bad.map .int)]= .ok (.lst ((jm ins gs (bits.map cM) T bad).map (mI 1))):=by
 have hz:sizeLine=16777216:=sizeLine_eq
 have hwd:=tm NO.hw
 have hN:=NO.hi
 have hG:=NO.hg
 have hbl:(bits.map cM).length=ins.length:=by rw[List.length_map,hb]
 unfold fO oi
 refine dm (bA (δ1:=jN (bz ins gs os) (.tup (bits.map bI)) (.tup (T.map .int)) (.tup (bad.map .int)) [] .un .un .un .un .un .un .un) rfl ?_)
 obtain⟨δ1,e1,a5,a6,h1⟩:=fT (t:=aJ 5) (body:=gK) (ds:=cc 0 ins.length) (fun i δ=>∃a5 a6,δ=jN (bz ins gs os) (.tup (bits.map bI)) (.tup (T.map .int)) (.tup (bad.map .int)) (cT ins (bits.map cM) bad i) a5 a6 .un .un .un .un .un)
  (δ:=jN (bz ins gs os) (.tup (bits.map bI)) (.tup (T.map .int)) (.tup (bad.map .int)) [] .un .un .un .un .un .un .un) ⟨.un, .un,rfl⟩ (fun i d δ hd ⟨a5,a6,hδ⟩=>by
    subst hδ
    obtain⟨hi,rfl⟩:=lU hd
    obtain⟨b6,e⟩:=Iy (bad:=bad) NO hb (tD:= .tup (T.map .int)) (a6:=a6) (a7:= .un) (a8:= .un) (a9:= .un) (a10:= .un) (a11:= .un) hi
    exact⟨_,e,_,_,rfl⟩)
 refine bA (gn (ds:=cc 0 ins.length) (d9 (aM (ds:=[.lst (ins.map inD)]) (ay (ax (a:=bz ins gs os) (b:= .int 0) rfl rfl rfl) rfl) (by rw[lh,List.length_map])) (by omega)) e1) ?_
 have hl0:(cc 0 ins.length).length=ins.length:=by simp [cc]
 rw[hl0] at h1
 subst h1
 obtain⟨δ2,e2',b7,b8,b9,b10,b11,h2⟩:=fT (t:=aJ 7) (body:=gL) (ds:=cc 0 gs.length) (fun i δ=>∃b7 b8 b9 b10 b11,δ=jN (bz ins gs os) (.tup (bits.map bI)) (.tup (T.map .int)) (.tup (bad.map .int)) (kK gs T (cT ins (bits.map cM) bad ins.length) i) a5 a6 b7 b8 b9 b10 b11)
  (δ:=jN (bz ins gs os) (.tup (bits.map bI)) (.tup (T.map .int)) (.tup (bad.map .int)) (cT ins (bits.map cM) bad ins.length) a5 a6 .un .un .un .un .un) ⟨_,_,_,_,_,rfl⟩ (fun i d δ hd ⟨b7,b8,b9,b10,b11,hδ⟩=>by
    subst hδ
    obtain⟨hi,rfl⟩:=lU hd
    have q:gs[i]? =some gs[i]:=List.getElem?_eq_getElem hi
    have hl:(kK gs T (cT ins (bits.map cM) bad ins.length) i).length=ni ins+i:=by rw[k3 _ (by omega),iL hbl _ (Nat.le_refl _),List.take_length]
    obtain⟨c8,c9,c10,c11,e⟩:=IU (ins:=ins) (os:=os) (T:=T) (bD:= .tup (bad.map .int)) (bitsD:= .tup (bits.map bI)) (ws:=kK gs T (cT ins (bits.map cM) bad ins.length) i) (a5:=a5) (a6:=a6) (a8:=b8) (a9:=b9) (a10:=b10) (a11:=b11) q (by rw[hl];exact NO.g i _ q) (by rw[hl];omega)
    refine⟨_,e, .val (.int i),c8,c9,c10,c11,?_⟩
    show jN _ _ _ _ _ _ _ _ _ _ _ _=jN _ _ _ _ (match gs[i]? with | some g=>kK gs T (cT ins (bits.map cM) bad ins.length) i++[fun p=>gF g (kK gs T (cT ins (bits.map cM) bad ins.length) i) p !=T.contains (i:Int)] | none=>kK gs T (cT ins (bits.map cM) bad ins.length) i) _ _ _ _ _ _ _
    rw[q])
 refine bA (gn (ds:=cc 0 gs.length) (d9 (aM (ds:=[.lst (gs.map gp)]) (ay (ax (a:=bz ins gs os) (b:= .int 1) rfl rfl rfl) rfl) (by rw[lh,List.length_map])) (by omega)) e2') ?_
 have hl2:(cc 0 gs.length).length=gs.length:=by simp [cc]
 rw[hl2] at h2
 subst h2
 rfl
end
noncomputable def RD(c:Nat)(ins:List (Str × Nat))(gs:List Gt)(os:List (Str × List Nat))(T:List Int)(p:Nat):List D:=os.map fun x=>tD (pt (Wd c ins gs T []) x p)
theorem mX{bits:List Bool}{p:Nat}(NO:g8 ins gs os)(hc:ins.length=c)(ho:∀x∈os,1≤x.2.length∧x.2.length≤3)(hp:(bx c)[p]? =some bits) :
 c6 [bz ins gs os,bR bits, .tup (T.map .int), .tup []]= .ok (.lst (RD c ins gs os T p)):=by
 have hz:sizeLine=16777216:=sizeLine_eq
 have hO:=NO.ho
 have hbl:=ib c bits (List.mem_of_getElem? hp)
 have hb:bits.length=ins.length:=by rw[hbl,hc]
 unfold c6 og
 refine dm (bA (fI (d:= .lst ((jm ins gs (bits.map cM) T []).map (mI 1))) (aM (ds:=[bz ins gs os, .tup (bits.map bI), .tup (T.map .int), .tup (([]:List Int).map .int)]) rfl (yW NO hb)) (by simp [cY,iU])) ?_)
 refine cI (eX (eu (ds:=os.map sI) (iM (ax (a:=bz ins gs os) (b:= .int 2) rfl rfl rfl)) (by rw[List.length_map];omega) ?_))
 unfold RD
 refine NT.cO sI _ fun x hx=>⟨[.val (.str x.1), .val (.tup (x.2.map nI)), .val (.lst ((jm ins gs (bits.map cM) T []).map (mI 1)))],rfl,rfl,?_⟩
 obtain⟨o1,o2⟩:=NO.o x hx
 refine(aM (ds:=[.lst ((x.2.map fun n=>iY (jm ins gs (bits.map cM) T []) n 0).map bI)]) (ay (eX (xN (fun n hn=>by rw[uH (by rw[List.length_map,hb])];exact o2 n hn) o1 (si rfl) rfl)) rfl) (u_ (by rw[List.length_map];exact ho x hx))).trans ?_
 congr 2
 unfold pt tell
 rw[List.map_map]
 congr 1
 exact List.map_congr_left fun n _=>F6 hc hp
end
end K16
end
section
set_option maxRecDepth 100000
set_option maxHeartbeats 4000000
namespace K16
open PySem PySem.Spec PyProof.Rows L2 L3 MT
theorem Fp{ds es:List D}(h:ds.length+es.length≤sizeLine):jy (.lst ds) (.lst es)= .ok (.lst (ds++es)):=sR h
theorem yG(l:List (List Bool)):(l.flatMap fun b=>[b++[false],b++[true]]).length=2*l.length:=by
 rw[List.length_flatMap]
 have:l.map (fun b=>[b++[false],b++[true]].length)=l.map fun _=>2:=rfl
 rw[this,List.map_const',List.sum_replicate_nat]
 omega
theorem yH{c:Nat}(hc:c≤10):eY [nI c]= .ok (.lst ((bx c).map bR)):=by
 have hz:sizeLine=16777216:=sizeLine_eq
 unfold eY nh
 refine dm (bA (fI (d:= .lst ((bx 0).map bR)) rfl (by simp [cY,jT])) ?_)
 obtain⟨δ1,e1,a2,a3,a4,hδ1⟩:=fT (t:=aJ 2) (body:=iC) (ds:=cc 0 c)
  (fun i δ=>∃a2 a3 a4,δ=[.val (nI c), .val (.lst ((bx i).map bR)),a2,a3,a4]) (δ:=[.val (nI c), .val (.lst ((bx 0).map bR)), .un, .un, .un]) ⟨.un, .un, .un,rfl⟩ (by
    rintro i d δ hd ⟨a2,a3,a4,rfl⟩
    have hi:i < c:=by
     have:=(List.getElem?_eq_some_iff.mp hd).1
     simpa [cc] using this
    have hpow:(bx i).length≤1024:=by
     rw[cq]
     exact Nat.pow_le_pow_right (by omega) (by omega:i≤10)
    generalize hL:D.lst ((bx i).map bR)=Li
    rw[show aJ 2 d [.val (nI c), .val Li,a2,a3,a4]= .ok [.val (nI c), .val Li, .val d,a3,a4] from rfl,R.aH]
    unfold iC
    obtain⟨δ2,e2',b4,hδ2⟩:=fT (t:=aJ 4) (body:=ij) (ds:=(bx i).map bR)
     (fun j δ=>∃b4,δ=[.val (nI c), .val Li, .val d, .val (.lst ((((bx i).take j).flatMap fun b=>[b++[false],b++[true]]).map bR)),b4]) (δ:=[.val (nI c), .val Li, .val d, .val (.lst []),a4]) ⟨a4,by simp⟩ (by
       rintro j x δ hx ⟨b4,rfl⟩
       obtain⟨b,hb,rfl⟩:=NT.tu hx
       have hjl:=(List.getElem?_eq_some_iff.mp hb).1
       have hbl:=ib i b (List.mem_of_getElem? hb)
       have hlen:=yG ((bx i).take j)
       rw[List.length_take] at hlen
       refine⟨[.val (nI c), .val Li, .val d, .val (.lst ((((bx i).take (j+1)).flatMap fun b=>[b++[false],b++[true]]).map bR)), .val (bR b)],?_,⟨_,rfl⟩⟩
       have hst:(((bx i).take (j+1)).flatMap fun b=>[b++[false],b++[true]]).map bR=(((bx i).take j).flatMap fun b=>[b++[false],b++[true]]).map bR++[bR (b++[false]),bR (b++[true])]:=by
        rw[List.take_add_one,hb,List.flatMap_append,List.map_append]
        simp
       rw[hst]
       generalize hG:(((bx i).take j).flatMap fun b=>[b++[false],b++[true]]).map bR=G
       have hGl:G.length≤2048:=by rw[←hG,List.length_map];omega
       rw[show aJ 4 (bR b) [.val (nI c), .val Li, .val d, .val (.lst G),b4]= .ok [.val (nI c), .val Li, .val d, .val (.lst G), .val (bR b)] from rfl,R.aH]
       unfold ij
       have add:∀(x:Bool),e2 jy (af 4) (cP (aj (eC (bI x)) aI)) [.val (nI c), .val Li, .val d, .val (.lst G), .val (bR b)]= .ok (bR (b++[x])):=fun x=>by
        refine ax (a:=bR b) (b:= .tup [bI x]) rfl (cK rfl (by simp;omega)) ?_
        show R.bC (decide ((b.map bI).length+[bI x].length≤sizeLine)) _=_
        rw[bH _ (by rw[List.length_map];simp;omega)]
        unfold bR
        rw[List.map_append];rfl
       exact fI (ax (a:= .lst G) (b:= .lst [bR (b++[false]),bR (b++[true])]) rfl (eX (sO (ay (add false) (ay (add true) rfl)) (by simp;omega))) (Fp (by simp;omega))) (by simp))
    rw[List.length_map,List.take_length] at hδ2
    subst hδ2
    refine⟨_,bA (fI (d:= .lst []) rfl (by simp)) (bA (gn (ds:=(bx i).map bR) (iM (by rw[hL];rfl)) e2') (fI (d:= .lst ((bx (i+1)).map bR)) rfl (by simp))),⟨.val d, .val (.lst ((bx (i+1)).map bR)),b4,rfl⟩⟩)
 refine bA (gn (ds:=cc 0 c) (d9 (n:=c) rfl (by omega)) e1) ?_
 have hlen:(cc 0 c).length=c:=by simp [cc]
 rw[hlen] at hδ1
 subst hδ1
 exact cI rfl
end K16
end
section
set_option maxRecDepth 100000
set_option maxHeartbeats 400000
namespace K16
open PySem PySem.Spec PyProof.Rows L2 L3 MT
theorem C8{T:List Nat}{p:Nat}:jw 3 (vU T p):=by
 unfold vU
 refine jw.tup fun d hd=>?_
 simp only[List.mem_cons,List.not_mem_nil,or_false] at hd
 rcases hd with rfl | rfl | rfl
 ·exact(jw.str (by decide+kernel)).mono (by omega)
 ·unfold hW
  exact(jw.tup (n:=0) fun y hy=>by obtain⟨z,_,rfl⟩:=List.mem_map.mp hy;exact jw.int _).mono (by omega)
 ·exact(jw.int _).mono (by omega)
theorem uM:jw 3 gc:=by
 unfold gc
 exact(jw.tup (n:=0) fun d hd=>by rw[List.mem_singleton.mp hd];exact jw.str (by decide+kernel)).mono (by omega)
theorem oY:jA gc gc= .ok (.bl true):=NT.eq_self uM (by omega)
theorem Fx{T:List Nat}{p:Nat}:jA (vU T p) gc= .ok (.bl false):=by
 have f1:=C8 (T:=T) (p:=p)
 have f2:=uM
 unfold jA
 unfold vU at f1 ⊢
 unfold gc at f2 ⊢
 rw[AX,f1.pl,f1.sh (by omega),f2.pl,f2.sh (by omega)]
 rfl
theorem qo{a b:D}{k:Bool}(h:jA a b= .ok (.bl k)):tF a b= .ok (.bl (!k)):=by
 unfold jA at h
 unfold tF
 cases q:DX a b with
 | ok d=>rw [q] at h;cases h;rfl
 | no=>rw [q] at h;cases h
 | ex _=>rw [q] at h;cases h
theorem Fb(xs:List Bool):((zm xs).1 && (zm xs).2)=false:=by
 unfold zm
 split
 ·cases ‹Bool› <;> rfl
 ·rename_i a b;cases a <;> cases b <;> rfl
 ·rename_i a b c;cases a <;> cases b <;> cases c <;> rfl
 ·rfl
theorem zt{safe:Bool}{x:Bool × Bool}(h:(x.1 && x.2)=false):brk safe x x=false:=by
 obtain⟨a,b⟩:=x
 cases a <;> cases b <;> cases safe <;> first | rfl | cases h
section
variable {c m:Nat} {ins:List (Str × Nat)} {gs:List Gt} {os:List (Str × List Nat)} {safe:Bool}
theorem C4{p:Nat}:lR safe c ins gs os [] p=false:=by
 unfold lR
 rw[List.any_eq_false]
 intro x _
 rw[zt (by unfold pt;exact Fb _)]
 decide
theorem AB{T:List Nat}(h:∀p,p < 2 ^ c→lR safe c ins gs os (nZ T) p=false):j2 safe c ins gs os T=none:=by
 unfold j2
 rw[List.filter_eq_nil_iff.mpr fun p hp=>by rw[h p (List.mem_range.mp hp)];decide]
 rfl
theorem jV(h:∀s,1≤s→s≤m→∀T∈kf (lZ gs) s,∀p,p < 2 ^ c→lR safe c ins gs os (nZ T) p=false):bears safe c ins gs os m=gc:=by
 unfold bears
 have:((List.range (m+1)).findSome? fun s=>(kf (lZ gs) s).findSome? (j2 safe c ins gs os))=none:=by
  rw[List.findSome?_eq_none_iff]
  intro s hs
  rw[List.findSome?_eq_none_iff]
  intro T hT
  refine AB fun p hp=>?_
  have hs:=List.mem_range.mp hs
  cases s with
  | zero=>
    have:T=[]:=List.length_eq_zero_iff.mp (nU hT).1
    subst this
    exact C4
  | succ s=>exact h _ (by omega) (by omega) T hT p hp
 rw[this];rfl
theorem wD{s p:Nat}{T:List Nat}(hs:s≤m)(hT:T∈kf (lZ gs) s)(hp:p < 2 ^ c)(h:lR safe c ins gs os (nZ T) p=true):∃T' p',bears safe c ins gs os m=vU T' p':=by
 unfold bears
 cases q:((List.range (m+1)).findSome? fun s=>(kf (lZ gs) s).findSome? (j2 safe c ins gs os)) with
 | none=>
   rw[List.findSome?_eq_none_iff] at q
   have h1:=q s (List.mem_range.mpr (by omega))
   rw[List.findSome?_eq_none_iff] at h1
   have h2:=h1 T hT
   unfold j2 at h2
   rw[Option.map_eq_none_iff,List.head?_eq_none_iff,List.filter_eq_nil_iff] at h2
   exact absurd h (h2 p (List.mem_range.mpr hp))
 | some d=>
   obtain⟨s',hs',h2⟩:=List.exists_of_findSome?_eq_some q
   obtain⟨T',hT',h3⟩:=List.exists_of_findSome?_eq_some h2
   unfold j2 at h3
   cases h4:((List.range (2 ^ c)).filter (lR safe c ins gs os (nZ T'))).head? with
   | none=>rw [h4] at h3;cases h3
   | some p'=>rw [h4] at h3;cases h3;exact⟨_,_,rfl⟩
theorem vx(ps:List Nat):(List.range ps.length).map (fun a=>ps.getD a 0)=ps:=by
 refine List.ext_getElem? fun i=>?_
 rw[List.getElem?_map]
 by_cases q:i < ps.length
 ·rw[List.getElem?_range q]
  show some (ps.getD i 0)=_
  rw[List.getD_eq_getElem?_getD,List.getElem?_eq_getElem q];rfl
 ·rw[List.getElem?_eq_none (by simp;omega),List.getElem?_eq_none (by omega)];rfl
theorem um{α β:Type}(f:α→β):∀xs:List α,(xs.flatMap fun x=>[f x])=xs.map f
 | []=>rfl
 | x ::xs=>by rw[List.flatMap_cons,um f xs];rfl
theorem CV(ps:List Nat):kf ps 1=ps.map fun x=>[x]:=by
 show((List.range ps.length).flatMap fun a=>(kf (ps.drop (a+1)) 0).map (ps.getD a 0 ::·))=_
 have:(fun a=>(kf (ps.drop (a+1)) 0).map (ps.getD a 0 ::·))=fun a=>[[ps.getD a 0]]:=by funext a;rfl
 rw[this,um]
 conv=>rhs;rw [←vx ps]
 rw[List.map_map];rfl
theorem F5{x:Nat}{ps:List Nat}(h:x∈ps):[x]∈kf ps 1:=by rw[CV];exact List.mem_map.mpr ⟨x,h,rfl⟩
theorem pd{x:Nat}:x∈lZ gs↔∃g,gs[x]? =some g∧g.2.2=false:=by
 unfold lZ
 rw[List.mem_filter,List.mem_range]
 constructor
 ·rintro⟨h1,h2⟩
  rw[List.getElem?_eq_getElem h1] at h2 ⊢
  exact⟨_,rfl,by simpa using h2⟩
 ·rintro⟨g,hg,h⟩
  refine⟨(List.getElem?_eq_some_iff.mp hg).1,?_⟩
  rw[hg]
  show(!g.2.2)=true
  rw[h];rfl
end
section
variable {c m:Nat} {ins:List (Str × Nat)} {gs:List Gt} {os:List (Str × List Nat)} {safe:Bool}
theorem sP{x:Nat}:x∈lZ (el m gs)↔∃i k,k < m∧x=m*i+k∧i∈lZ gs:=by
 rw[pd]
 constructor
 ·rintro⟨g,hg,hs⟩
  have hi:x < m*gs.length:=by rw[←jx];exact(List.getElem?_eq_some_iff.mp hg).1
  have hm0:0 < m:=by
   cases m with
   | zero=>rw [Nat.zero_mul] at hi;omega
   | succ n=>omega
  have hq:x / m < gs.length:=Nat.div_lt_of_lt_mul hi
  have hr:=Nat.mod_lt x hm0
  have h2:=m_ (m:=m) (k:=x % m) (List.getElem?_eq_getElem hq) hr
  rw[Nat.div_add_mod,hg] at h2
  cases h2
  exact⟨x / m,x % m,hr,(Nat.div_add_mod x m).symm,pd.mpr ⟨_,List.getElem?_eq_getElem hq,hs⟩⟩
 ·rintro⟨i,k,hk,rfl,hu⟩
  obtain⟨g,hg,hs⟩:=pd.mp hu
  exact⟨_,m_ hg hk,hs⟩
structure Pl (c:Nat) (ins:List (Str × Nat)) (gs:List Gt) (os:List (Str × List Nat)):Prop where
 no:g8 ins gs os
 hc:ins.length=c
 w1:∀x∈ins,x.2=1
 o1:∀x∈os,∃w,x.2=[w]
theorem Pl.ni(P:Pl c ins gs os):MT.ni ins=ins.length:=by rw[l_ P.w1,Nat.one_mul]
theorem Pl.g(P:Pl c ins gs os)(i:Nat)(g:Gt)(h:gs[i]? =some g):nA (ins.length+i) g:=by
 have:=P.no.g i g h
 rw[P.ni] at this
 exact this
noncomputable def wv(c:Nat)(ins:List (Str × Nat))(gs:List Gt)(T:List Int)(w p:Nat):Bool:=iY (Wd c ins gs T []) w p
theorem Dn(P:Pl c ins gs os){x:Str × List Nat}{w p:Nat}{T:List Int}(hx:x∈os)(hw:x.2=[w]) :
 (tell (Wd c (fF m ins) (el m gs) T []) (x.1,(List.range m).map fun k=>m*x.2.getD 0 0+k)).map (· p)=(List.range m).map fun k=>wv c ins gs (shr m k gs.length T) w p:=by
 unfold tell
 rw[hw]
 show(((List.range m).map fun k=>m*w+k).map (iY _)).map (· p)=_
 rw[List.map_map,List.map_map]
 refine List.map_congr_left fun k hk=>?_
 have h2:=(P.no.o x hx).2 w (by rw[hw];simp)
 rw[P.ni] at h2
 have:=xR (m:=m) (p:=p) (T:=T) (bad:=[]) (bits:=qR c) (by rw[qh,P.hc]) P.w1 P.g (w+1) w (by omega) h2 k (List.mem_range.mp hk)
 rw[xG] at this
 exact this
theorem qv{k w p:Nat}:wv c ins gs (shr m k gs.length []) w p=wv c ins gs [] w p:=by rw[xG]
theorem mF{k i w p:Nat}(hk:k < m):wv c ins gs (shr m k gs.length (nZ [m*i+k])) w p=wv c ins gs (nZ [i]) w p:=by
 have e:Wd c ins gs (shr m k gs.length (nZ [m*i+k])) []=Wd c ins gs (nZ [i]) []:=pG fun j hj=>BE hk j hj
 unfold wv
 rw[e]
theorem gR{k k' i w p:Nat}(hk:k < m)(hk':k' < m)(h:k'≠k):wv c ins gs (shr m k' gs.length (nZ [m*i+k])) w p=wv c ins gs [] w p:=by
 have e:Wd c ins gs (shr m k' gs.length (nZ [m*i+k])) []=Wd c ins gs [] []:=pG fun j hj=>yU hk hk' h j hj
 unfold wv
 rw[e]
theorem xj(P:Pl c ins gs os){x:Str × List Nat}{w p:Nat}{T:List Int}(hx:x∈os)(hw:x.2=[w]) :
 pt (Wd c (fF m ins) (el m gs) T []) (x.1,(List.range m).map fun k=>m*x.2.getD 0 0+k) p=zm ((List.range m).map fun k=>wv c ins gs (shr m k gs.length T) w p):=by
 unfold pt
 rw[Dn P hx hw]
theorem zO{x:Str × List Nat}{w p:Nat}{T:List Int}(hw:x.2=[w]):pt (Wd c ins gs T []) x p=(!(wv c ins gs T w p),wv c ins gs T w p):=by
 unfold pt tell
 rw[hw]
 rfl
theorem AZ(P:Pl c ins gs os){i k p:Nat}(hk:k < 3):lR safe c (fF 3 ins) (el 3 gs) (oV 3 os) (nZ [3*i+k]) p=false:=by
 unfold lR oV
 rw[List.any_map,List.any_eq_false]
 intro x hx
 obtain⟨w,hw⟩:=P.o1 x hx
 show ¬brk safe (pt _ _ p) (pt _ _ p)=true
 rw[xj P hx hw,xj P hx hw]
 show ¬brk safe (zm [wv c ins gs (shr 3 0 gs.length []) w p,wv c ins gs (shr 3 1 gs.length []) w p,wv c ins gs (shr 3 2 gs.length []) w p]) (zm [wv c ins gs (shr 3 0 gs.length (nZ [3*i+k])) w p,wv c ins gs (shr 3 1 gs.length (nZ [3*i+k])) w p,wv c ins gs (shr 3 2 gs.length (nZ [3*i+k])) w p])=true
 rw[qv,qv,qv]
 rcases(by omega:k=0∨k=1∨k=2) with rfl | rfl | rfl
 ·rw[mF hk,gR hk (by omega) (by omega),gR hk (by omega) (by omega)]
  cases wv c ins gs [] w p <;> cases wv c ins gs (nZ [i]) w p <;> cases safe <;> decide
 ·rw[mF hk,gR hk (by omega) (by omega),gR hk (by omega) (by omega)]
  cases wv c ins gs [] w p <;> cases wv c ins gs (nZ [i]) w p <;> cases safe <;> decide
 ·rw[mF hk,gR hk (by omega) (by omega),gR hk (by omega) (by omega)]
  cases wv c ins gs [] w p <;> cases wv c ins gs (nZ [i]) w p <;> cases safe <;> decide
theorem ye(P:Pl c ins gs os){x:Str × List Nat}{w i k p:Nat}(hk:k < 2)(hx:x∈os)(hw:x.2=[w]) :
 brk safe (pt (Wd c (fF 2 ins) (el 2 gs) [] []) (x.1,(List.range 2).map fun k=>2*x.2.getD 0 0+k) p) (pt (Wd c (fF 2 ins) (el 2 gs) (nZ [2*i+k]) []) (x.1,(List.range 2).map fun k=>2*x.2.getD 0 0+k) p)=(!safe && (wv c ins gs [] w p !=wv c ins gs (nZ [i]) w p)):=by
 rw[xj P hx hw,xj P hx hw]
 show brk safe (zm [wv c ins gs (shr 2 0 gs.length []) w p,wv c ins gs (shr 2 1 gs.length []) w p]) (zm [wv c ins gs (shr 2 0 gs.length (nZ [2*i+k])) w p,wv c ins gs (shr 2 1 gs.length (nZ [2*i+k])) w p])=_
 rw[qv,qv]
 rcases(by omega:k=0∨k=1) with rfl | rfl
 ·rw[mF hk,gR hk (by omega) (by omega)]
  cases wv c ins gs [] w p <;> cases wv c ins gs (nZ [i]) w p <;> cases safe <;> rfl
 ·rw[mF hk,gR hk (by omega) (by omega)]
  cases wv c ins gs [] w p <;> cases wv c ins gs (nZ [i]) w p <;> cases safe <;> rfl
theorem zX(P:Pl c ins gs os){i k p:Nat}(hk:k < 2):lR true c (fF 2 ins) (el 2 gs) (oV 2 os) (nZ [2*i+k]) p=false:=by
 unfold lR oV
 rw[List.any_map,List.any_eq_false]
 intro x hx
 obtain⟨w,hw⟩:=P.o1 x hx
 show ¬brk true (pt _ _ p) (pt _ _ p)=true
 rw[ye P hk hx hw]
 exact Bool.false_ne_true
theorem mh{α:Type}{f g:α→Bool}:∀{xs:List α},(∀x∈xs,f x=g x)→xs.any f=xs.any g
 | [],_=>rfl
 | x ::xs,h=>by rw[List.any_cons,List.any_cons,h x List.mem_cons_self,mh fun y hy=>h y (List.mem_cons_of_mem _ hy)]
theorem D7(P:Pl c ins gs os){T:List Int}{p:Nat}:lR false c ins gs os T p=os.any fun x=>wv c ins gs [] (x.2.getD 0 0) p !=wv c ins gs T (x.2.getD 0 0) p:=by
 unfold lR
 refine mh fun x hx=>?_
 obtain⟨w,hw⟩:=P.o1 x hx
 rw[zO hw,zO hw,hw]
 show brk false _ _=(wv c ins gs [] w p !=wv c ins gs T w p)
 cases wv c ins gs [] w p <;> cases wv c ins gs T w p <;> rfl
theorem rh(P:Pl c ins gs os){i k p:Nat}(hk:k < 2):lR false c (fF 2 ins) (el 2 gs) (oV 2 os) (nZ [2*i+k]) p=lR false c ins gs os (nZ [i]) p:=by
 rw[D7 P]
 unfold lR oV
 rw[List.any_map]
 refine mh fun x hx=>?_
 obtain⟨w,hw⟩:=P.o1 x hx
 refine(ye (safe:=false) P hk hx hw).trans ?_
 rw[hw];rfl
theorem uO(P:Pl c ins gs os)(hm:m≤1):bears safe c (fF 3 ins) (el 3 gs) (oV 3 os) m=gc:=jV fun s h1 h2 T hT p hp=>by
 have hl:=nU hT
 obtain rfl:s=1:=by omega
 obtain⟨x,rfl⟩:=List.length_eq_one_iff.mp hl.1
 obtain⟨i,k,hk,rfl,_⟩:=sP.mp (hl.2 x (by simp))
 exact AZ P hk
theorem yJ(P:Pl c ins gs os)(hm:m≤1):bears true c (fF 2 ins) (el 2 gs) (oV 2 os) m=gc:=jV fun s h1 h2 T hT p hp=>by
 have hl:=nU hT
 obtain rfl:s=1:=by omega
 obtain⟨x,rfl⟩:=List.length_eq_one_iff.mp hl.1
 obtain⟨i,k,hk,rfl,_⟩:=sP.mp (hl.2 x (by simp))
 exact zX P hk
noncomputable def lq(c:Nat)(ins:List (Str × Nat))(gs:List Gt)(os:List (Str × List Nat)):Bool:=(lZ gs).any fun i=>(List.range (2 ^ c)).any (lR false c ins gs os (nZ [i]))
theorem yn(P:Pl c ins gs os):jA (bears false c (fF 2 ins) (el 2 gs) (oV 2 os) 1) gc= .ok (.bl (!lq c ins gs os)):=by
 cases q:lq c ins gs os with
 | false=>
   rw[jV fun s h1 h2 T hT p hp=>?_]
   ·exact oY
   ·have hl:=nU hT
    obtain rfl:s=1:=by omega
    obtain⟨x,rfl⟩:=List.length_eq_one_iff.mp hl.1
    obtain⟨i,k,hk,rfl,hu⟩:=sP.mp (hl.2 x (by simp))
    rw[rh P hk]
    unfold lq at q
    rw[List.any_eq_false] at q
    have:=q i hu
    rw[Bool.not_eq_true,List.any_eq_false] at this
    exact Bool.eq_false_iff.mpr (this p (List.mem_range.mpr hp))
 | true=>
   unfold lq at q
   obtain⟨i,hu,h⟩:=List.any_eq_true.mp q
   obtain⟨p,hp,h⟩:=List.any_eq_true.mp h
   obtain⟨T',p',e⟩:=wD (safe:=false) (c:=c) (ins:=fF 2 ins) (gs:=el 2 gs) (os:=oV 2 os) (m:=1) (s:=1) (T:=[2*i+0]) (Nat.le_refl _) (F5 (sP.mpr ⟨i,0,by omega,rfl,hu⟩)) (List.mem_range.mp hp) (by rw[rh P (by omega)];exact h)
   rw[e]
   exact Fx
end
end K16
end
section
set_option maxRecDepth 100000
set_option maxHeartbeats 400000
namespace K16
open PySem PySem.Spec PyProof.Rows L2 L3 MT
theorem ot{S:aN}{δ:DE}{i:Nat}{v:V3}{d:D}(hi:δ[i]? =some (some v))(hr:res S v=some d):af i (bX S δ)= .ok d:=by
 unfold af bX
 rw[List.getElem?_map,hi]
 show(match some (match res S v with | some d=>Sl.val d | none=> .un) with | some (.val d)=>R.ok d | _=> .no)=_
 rw[hr]
theorem BD{S:aN}{δ:DE}{i:Nat}{v:V3}{d:D}(hi:δ[i]? =some (some v))(hr:res S v=some d):kj (bX S δ) i= .val d:=by
 unfold kj bX
 rw[List.getElem?_map,hi]
 show(match some (match res S v with | some d=>Sl.val d | none=> .un) with | some (.val d)=>Sl.val d | _=> .un)=_
 rw[hr]
noncomputable def two(S:aN)(A B:List D):aN:=S++[SO.lst A,SO.lst B]
theorem vf{S:aN}{A B:List D}:(two S A B)[S.length]? =some (.lst A):=by unfold two;rw [List.getElem?_append_right (Nat.le_refl _),Nat.sub_self];rfl
theorem xI{S:aN}{A B:List D}:(two S A B)[S.length+1]? =some (.lst B):=by unfold two;rw [List.getElem?_append_right (by omega),show S.length+1 - S.length=1 by omega];rfl
theorem Fh{S:aN}{A B A':List D}:(two S A B).set S.length (.lst A')=two S A' B:=by unfold two;rw [List.set_append_right _ _ (Nat.le_refl _),Nat.sub_self];rfl
theorem Ge{S:aN}{A B B':List D}:(two S A B).set (S.length+1) (.lst B')=two S A B':=by unfold two;rw [List.set_append_right _ _ (by omega),show S.length+1 - S.length=1 by omega];rfl
theorem AS{S:aN}{A:List D}:(S++[SO.lst A])++[SO.lst []]=two S A []:=by unfold two;rw [List.append_assoc];rfl
noncomputable def row(m w:Nat):D:= .lst ((List.range m).map fun k=>nI (m*w+k))
noncomputable def rows(m n:Nat):List D:=(List.range n).map (row m)
theorem HI{m w k:Nat}(h:k < m):cb (row m w) (nI k)= .ok (nI (m*w+k)):=NT.iX (by rw[List.getElem?_map,List.getElem?_range h];rfl)
theorem xk{m n w:Nat}(h:w < n):cb (.lst (rows m n)) (nI w)= .ok (row m w):=NT.iX (by unfold rows;rw [List.getElem?_map,List.getElem?_range h];rfl)
theorem z9{m w:Nat}(hm:m≤10)(hw:w < 10000):ju (nI m) (nI w)= .ok (nI (m*w)):=by
 show ju (.int (m:Int)) (.int (w:Int))= .ok (.int ((m*w:Nat):Int))
 rw[Int.natCast_mul]
 exact(NT.Jq (by omega)).trans (by rw[Int.natCast_mul])
theorem wg(a b:Nat):eE (nI a) (nI b)= .ok (nI (a+b)):=by
 show R.ok (D.int ((a:Int)+(b:Int)))= .ok (.int ((a+b:Nat):Int))
 rw[Int.natCast_add]
section
variable {m:Nat} {ins:List (Str × Nat)} {gs:List Gt} {os:List (Str × List Nat)} {S:aN}
noncomputable def tE(nt:D)(m n:Nat)(S:aN)(a5 a6 a7 a8 a9:Option V3):DE:=[some (.d nt),some (.d (nI m)),some (.loc S.length),some (.d (nI (m*n))),some (.loc (S.length+1)),a5,a6,a7,a8,a9]
theorem Cv{n:Nat}{g:Gt}{k:Nat}{nt:D}{G:List D}{N0:Nat}{a9:Option V3}(hk:k < m)(hm:m≤10)(hg:nA n g) :
 cP (aj (af 5) (aj (aK fg (aj (eNew (fu (et (af 6)) (aJ 0) jH (e2 cb (e2 cb (af 1) (af 0)) (af 2)) [(Str.ofString "wire")] [2,8])) aI)) (aj (af 7) aI))) (bX (two S (rows m (n+1)) G) (tE nt m N0 S (some (.d (.str (kS g.1)))) (some (.d (.tup (g.2.1.map nI)))) (some (.d (.bl g.2.2))) (some (.d (nI k))) a9))= .ok (gp (BX m g k)):=by
 have hz:sizeLine=16777216:=sizeLine_eq
 have hal:=w9 g.1
 have hgl:=hg.2.1
 generalize hE:bX (two S (rows m (n+1)) G) (tE nt m N0 S (some (.d (.str (kS g.1)))) (some (.d (.tup (g.2.1.map nI)))) (some (.d (.bl g.2.2))) (some (.d (nI k))) a9)=E
 have v2:af 2 E= .ok (.lst (rows m (n+1))):=by rw[←hE];exact ot (v:= .loc S.length) rfl (kW vf)
 have v5:af 5 E= .ok (.str (kS g.1)):=by rw[←hE];exact ot (v:= .d (.str (kS g.1))) rfl (by unfold res;rfl)
 have v6:af 6 E= .ok (.tup (g.2.1.map nI)):=by rw[←hE];exact ot (v:= .d (.tup (g.2.1.map nI))) rfl (by unfold res;rfl)
 have v7:af 7 E= .ok (.bl g.2.2):=by rw[←hE];exact ot (v:= .d (.bl g.2.2)) rfl (by unfold res;rfl)
 have hc:oH [(Str.ofString "wire")] [2,8] E=[.un, .val (.lst (rows m (n+1))), .val (nI k)]:=by
  rw[←hE]
  show [Sl.un]++[kj _ 2,kj _ 8]=_
  rw[BD (v:= .loc S.length) rfl (kW vf),BD (v:= .d (nI k)) rfl (by unfold res;rfl)]
  rfl
 refine cK (ds:=[.str (kS g.1), .tup ((BX m g k).2.1.map nI), .bl g.2.2]) (ay v5 (ay (aM (ds:=[.lst ((BX m g k).2.1.map nI)]) (ay (eX (eu (ds:=g.2.1.map nI) (si v6) (by rw[List.length_map];omega) ?_)) rfl) rfl) (ay v7 rfl))) (by simp;omega)
 rw[hc]
 show _=R.ok ((g.2.1.map (fun w=>m*w+k)).map nI)
 rw[List.map_map]
 refine NT.cO nI _ fun w hw=>⟨[.val (nI w), .val (.lst (rows m (n+1))), .val (nI k)],rfl,rfl,?_⟩
 have:=hg.2.2 w hw
 exact ax (a:=row m w) (b:=nI k) (ax (a:= .lst (rows m (n+1))) (b:=nI w) rfl rfl (xk (by omega))) rfl (HI hk)
theorem Gq(g:Gt):ka (gp g)=true:=by
 unfold gp ka
 show(ka (.str (kS g.1)) && (ka (.tup (g.2.1.map nI)) && (ka (.bl g.2.2) && mC [])))=true
 rw[pU];rfl
end
end K16
end
section
set_option maxRecDepth 100000
set_option maxHeartbeats 400000
namespace K16
open PySem PySem.Spec PyProof.Rows L2 L3 MT
section
variable {m:Nat} {ins:List (Str × Nat)} {gs:List Gt} {os:List (Str × List Nat)} {S:aN}
theorem yx{g:Gt}{n i:Nat}{nt:D}{G:List Gt}{a8 a9:Option V3}(hm:m≤10)(hm0:0 < m)(hn:n+i < 1000)(hg:nA (n+i) g)(hG:G.length=m*i)(hGl:G.length≤900) :
 W3 (fK (tE nt m n S (some (.d (.str (kS g.1)))) (some (.d (.tup (g.2.1.map nI)))) (some (.d (.bl g.2.2))) a8 a9) (two S (rows m (n+i)) (G.map gp))) fun o S1=>∃b8,o= .nx (tE nt m n S (some (.d (.str (kS g.1)))) (some (.d (.tup (g.2.1.map nI)))) (some (.d (.bl g.2.2))) b8 a9)∧S1=two S (rows m (n+i+1)) ((G++(List.range m).map (BX m g)).map gp):=by
 have hz:sizeLine=16777216:=sizeLine_eq
 unfold fK
 have hrl:(rows m (n+i)).length=n+i:=by unfold rows;simp
 refine bu <| kM (k:=S.length) rfl ⟨_,vf⟩ <| kZ (fun j ds S2=>S2=two S (rows m (n+i)) (G.map gp)∧ds=(List.range j).map fun k=>nI (m*(n+i)+k)) (k7 (ds:=(List.range m).map nI) ?_ ⟨by rw[List.length_map,List.length_map,List.length_range];omega,⟨rfl,rfl⟩,?_,?_⟩)
 ·rw[←l5]
  exact d9 (n:=m) rfl (by omega)
 ·rintro j v ds S2 hv ⟨rfl,rfl⟩
  obtain⟨k,hk,rfl⟩:=NT.jb hv
  have hj:j < m:=by have:=(List.getElem?_eq_some_iff.mp hk).1;rwa [List.length_range] at this
  rw[List.getElem?_range hj] at hk
  cases hk
  refine⟨[some (.d (nI j)),some (.d (nI (m*n))),some (.loc (S.length+1))],rfl,uJ ?_⟩
  rw[if_pos rfl]
  refine xc (d:=nI (m*(n+i)+j)) ?_ rfl ⟨_,rfl,rfl,by rw[List.range_succ,List.map_append];rfl⟩
  refine ax (a:=nI (m*(n+i))) (b:=nI j) (ax (a:=nI (m*n)) (b:=nI (m*i)) rfl (aM (ds:=[.lst (G.map gp)]) (ay (ot (v:= .loc (S.length+1)) rfl (kW xI)) rfl) (by rw[lh,List.length_map,hG];rfl)) ?_) rfl (wg _ _)
  rw[wg,Nat.mul_add]
 rintro ds S2 ⟨rfl,rfl⟩
 rw[List.length_map,List.length_map,List.length_range]
 refine⟨_,_,rfl,vf,by rw[hrl];omega,_,rfl,?_⟩
 rw[Fh]
 have hrow:rows m (n+i)++[D.lst ((List.range m).map fun k=>nI (m*(n+i)+k))]=rows m (n+i+1):=by
  unfold rows
  rw[List.range_succ,List.map_append];rfl
 rw[hrow]
 refine gO <| k7 (ds:=(List.range m).map nI) ?_ ?_
 ·rw[←l5]
  exact d9 (n:=m) rfl (by omega)
 refine(cz (fun j δ S2=>∃b8,δ=tE nt m n S (some (.d (.str (kS g.1)))) (some (.d (.tup (g.2.1.map nI)))) (some (.d (.bl g.2.2))) b8 a9∧S2=two S (rows m (n+i+1)) ((G++(List.range j).map (BX m g)).map gp))
  ⟨a8,rfl,by simp⟩ ?_).mono fun o S2 ⟨δ2,e2',b8,hδ,hS⟩=>⟨b8,by rw[e2',hδ],by rw[hS,List.length_map,List.length_map,List.length_range]⟩
 rintro j v δ S2 hv ⟨b8,rfl,rfl⟩
 obtain⟨k,hk,rfl⟩:=NT.jb hv
 have hj:j < m:=by have:=(List.getElem?_eq_some_iff.mp hk).1;rwa [List.length_range] at this
 rw[List.getElem?_range hj] at hk
 cases hk
 refine⟨tE nt m n S (some (.d (.str (kS g.1)))) (some (.d (.tup (g.2.1.map nI)))) (some (.d (.bl g.2.2))) (some (.d (nI j))) a9,rfl,?_⟩
 unfold iq
 refine kM (k:=S.length+1) rfl ⟨_,xI⟩ <| xc (Cv hj hm hg) (Gq _) ⟨_,_,rfl,xI,?_,_,rfl,_,rfl,?_⟩
 ·rw[List.length_map,List.length_append,List.length_map,List.length_range];omega
 ·rw[Ge]
  congr 1
  rw[List.range_succ,List.map_append,List.map_append,List.map_append,List.map_append,←List.append_assoc]
  rfl
theorem xQ{c:Nat}(P:Pl c ins gs os)(hm:m≤10)(hm0:0 < m)(hgl:gs.length≤90)(hS:wA S){Q:V3→aN→Prop}(h:Q (.d (bz (fF m ins) (el m gs) (oV m os))) S) :
 W3 (dF [.d (bz ins gs os), .d (nI m)] S) Q:=by
 have hz:sizeLine=16777216:=sizeLine_eq
 have hi:=P.no.hi
 have hO:=P.no.ho
 unfold dF
 refine mq hS (vq rfl ?_)
 simp only[bQ,bM,List.map_cons,List.map_nil,List.length_cons,List.length_nil,List.replicate,List.cons_append,List.nil_append,Nat.reduceAdd,Nat.reduceSub]
 unfold gC
 have hlen:∀{δ:av},af 0 δ= .ok (bz ins gs os)→aK dz (aj (e2 cb (af 0) (eC (.int 0))) aI) δ= .ok (nI ins.length):=fun hv=>aM (ds:=[.lst (ins.map MT.inD)]) (ay (ax (a:=bz ins gs os) (b:= .int 0) hv rfl rfl) rfl) (by rw[lh,List.length_map];rfl)
 refine bu <| bY (by simp only[List.length_cons,List.length_nil,List.length_set];omega) <| jn (ds:=rows m ins.length) ?_ ⟨_,rfl,?_⟩
 ·refine eu (ds:=(List.range ins.length).map nI) ?_ (by rw[List.length_map,List.length_range];omega) ?_
  ·rw[←l5]
   exact d9 (n:=ins.length) (hlen rfl) (by omega)
  refine NT.cO (t:=aJ 0) (c:=jH) (δ:=[.un, .val (nI m)]) nI (row m) fun w hw=>⟨[.val (nI w), .val (nI m)],rfl,rfl,?_⟩
  have hw:=List.mem_range.mp hw
  refine eX (eu (ds:=(List.range m).map nI) ?_ (by rw[List.length_map,List.length_range];omega) ?_)
  ·rw[←l5]
   exact d9 (n:=m) rfl (by omega)
  exact NT.cO (t:=aJ 0) (c:=jH) (δ:=[.un, .val (nI w), .val (nI m)]) nI _ fun k hk=>⟨[.val (nI k), .val (nI w), .val (nI m)],rfl,rfl,ax (a:=nI (m*w)) (b:=nI k) (ax (a:=nI m) (b:=nI w) rfl rfl (z9 hm (by omega))) rfl (wg _ _)⟩
 simp only[List.set_cons_succ,List.set_cons_zero]
 refine bu <| bY (by simp only[List.length_cons,List.length_nil,List.length_set];omega) <| dP (d:=nI (m*ins.length)) (ax (a:=nI m) (b:=nI ins.length) rfl (hlen rfl) (z9 hm (by omega))) ⟨_,rfl,?_⟩
 simp only[List.set_cons_succ,List.set_cons_zero]
 refine bu <| bY (by simp only[List.length_cons,List.length_nil,List.length_set];omega) <| jn (ds:=[]) rfl ⟨_,rfl,?_⟩
 rw[AS]
 simp only[List.set_cons_succ,List.set_cons_zero]
 rw[show(S++[SO.lst (rows m ins.length)]).length=S.length+1 by simp]
 refine bu <| gO <| k7 (ds:=gs.map gp) (iM (ax (a:=bz ins gs os) (b:= .int 1) rfl rfl rfl)) ?_
 refine(cz (fun i δ S2=>∃a5 a6 a7 a8,δ=tE (bz ins gs os) m ins.length S a5 a6 a7 a8 none∧S2=two S (rows m (ins.length+i)) ((el m (gs.take i)).map gp))
  ⟨_,_,_,_,rfl,rfl⟩ ?_).mono fun o S2 ⟨δ2,e2',a5,a6,a7,a8,hδ,hS2⟩=>⟨δ2,e2',?_⟩
 ·rintro i v δ S2 hv ⟨a5,a6,a7,a8,rfl,rfl⟩
  obtain⟨g,hg,rfl⟩:=NT.jb hv
  have hgi:=(List.getElem?_eq_some_iff.mp hg).1
  refine⟨tE (bz ins gs os) m ins.length S (some (.d (.str (kS g.1)))) (some (.d (.tup (g.2.1.map nI)))) (some (.d (.bl g.2.2))) a8 none,rfl,?_⟩
  have hmul:=Nat.mul_le_mul hm hgl
  have hcl:(el m (gs.take i)).length=m*i:=by rw[jx,List.length_take,Nat.min_eq_left (by omega)]
  have hmi:=Nat.mul_le_mul hm (show i≤90 by omega)
  refine(yx hm hm0 (by omega) (P.g i g hg) hcl (by rw[hcl];omega)).mono fun o S3 ⟨b8,e3,hS3⟩=>⟨_,e3,_,_,_,_,rfl,?_⟩
  rw[hS3,List.take_add_one,hg]
  congr 1
  show _=(el m (gs.take i++[g])).map gp
  unfold el
  rw[List.flatMap_append,List.flatMap_singleton]
 rw[List.length_map,List.length_map,List.take_length] at hS2
 subst hδ hS2
 unfold tE
 refine bu <| bY (by simp only[List.length_cons,List.length_nil,List.length_set];omega) <| kZ (fun j ds S2=>S2=two S (rows m (ins.length+gs.length)) ((el m gs).map gp)∧ds=(oV m (os.take j)).map sI) (k7 (ds:=os.map sI) (iM (ax (a:=bz ins gs os) (b:= .int 2) rfl rfl rfl)) ⟨by rw[List.length_map,List.length_map];omega,⟨rfl,rfl⟩,?_,?_⟩)
 ·rintro j v ds S2 hv ⟨rfl,rfl⟩
  obtain⟨x,hx,rfl⟩:=NT.jb hv
  obtain⟨w,hw⟩:=P.o1 x (List.mem_of_getElem? hx)
  have hwl:=(P.no.o x (List.mem_of_getElem? hx)).2 w (by rw[hw];simp)
  rw[P.ni] at hwl
  refine⟨[some (.d (.str x.1)),some (.d (.tup (x.2.map nI))),some (.loc S.length)],rfl,uJ ?_⟩
  rw[if_pos rfl]
  refine xc (d:=sI (x.1,(List.range m).map fun k=>m*x.2.getD 0 0+k)) ?_ ?_ ⟨_,rfl,rfl,?_⟩
  ·rw[hw]
   refine cK (ds:=[.str x.1, .tup (((List.range m).map fun k=>m*w+k).map nI)]) (ay (ot (v:= .d (.str x.1)) rfl (by unfold res;rfl)) (ay (aM (ds:=[row m w]) (ay (ax (a:= .lst (rows m (ins.length+gs.length))) (b:=nI w) (ot (v:= .loc S.length) rfl (kW vf)) (ax (a:= .tup [nI w]) (b:= .int 0) (ot (v:= .d (.tup [nI w])) rfl (by unfold res;rfl)) rfl rfl) (xk hwl)) rfl) ?_) rfl)) (by simp;omega)
   unfold row
   rw[List.map_map]
   rfl
  ·unfold sI ka
   show(ka (.str x.1) && (ka (.tup _) && mC []))=true
   rw[pU];rfl
  ·rw[List.take_add_one,hx]
   unfold oV
   rw[List.map_append,List.map_append];rfl
 rintro ds S2 ⟨rfl,rfl⟩
 rw[List.length_map,List.length_map,List.take_length]
 refine⟨_,rfl,?_⟩
 simp only[List.set_cons_succ,List.set_cons_zero]
 refine gu <| rj <| aG <| jn (ds:=(fF m ins).map MT.inD) ?_ <| aG <| w_var (v:= .loc (S.length+1)) rfl <| aG <| w_var (v:= .d (.lst ((oV m os).map sI))) rfl <| cJ ⟨by simp;omega,_,rfl,?_,⟨[SO.lst (rows m (ins.length+gs.length)),SO.lst ((el m gs).map gp),SO.lst ((fF m ins).map MT.inD)],by unfold two;rw [List.append_assoc];rfl⟩,bz (fF m ins) (el m gs) (oV m os),?_,h⟩
 ·refine eu (ds:=ins.map MT.inD) (iM (ax (a:=bz ins gs os) (b:= .int 0) rfl rfl rfl)) (by rw[List.length_map];omega) ?_
  unfold fF
  rw[List.map_map]
  exact NT.cO (t:=fS 2 (b_ (aJ 0) (b_ (aJ 1) fU))) (c:=jH) (δ:=[.un, .un, .val (nI m)]) MT.inD _ fun x _=>⟨[.val (.str x.1), .val (nI x.2), .val (nI m)],rfl,rfl,cK (ds:=[.str x.1,nI m]) rfl (by simp;omega)⟩
 ·have hl2:(two S (rows m (ins.length+gs.length)) ((el m gs).map gp)).length=S.length+2:=by unfold two;simp
  rw[hl2]
  show eO S.length (.tup [.loc (S.length+2), .loc (S.length+1), .d (.lst ((oV m os).map sI))])=true
  simp [eO,lx]
 ·have hl2:(two S (rows m (ins.length+gs.length)) ((el m gs).map gp)).length=S.length+2:=by unfold two;simp
  have e1:(two S (rows m (ins.length+gs.length)) ((el m gs).map gp)++[SO.lst ((fF m ins).map MT.inD)])[S.length+2]? =some (.lst ((fF m ins).map MT.inD)):=by rw[←hl2];exact bO _ _
  have e2':(two S (rows m (ins.length+gs.length)) ((el m gs).map gp)++[SO.lst ((fF m ins).map MT.inD)])[S.length+1]? =some (.lst ((el m gs).map gp)):=by rw[List.getElem?_append_left (by omega)];exact xI
  rw[hl2]
  show res _ (.tup [.loc (S.length+2), .loc (S.length+1), .d (.lst ((oV m os).map sI))])=_
  simp [res,kJ,e1,e2',bz]
end
end K16
end
section
set_option maxRecDepth 100000
set_option maxHeartbeats 400000
namespace K16
open PySem PySem.Spec PyProof.Rows L2 L3 MT
structure PS (k b c:Nat) (B C:List D) (S S1:aN):Prop where
 p:tG k S1
 len:S.length≤S1.length
 oth:∀j,j < S.length→j≠k→S1[j]? =S[j]?
 eb:S1[b]? =some (.lst B)
 ec:S1[c]? =some (.lst C)
section
variable {k b c m:Nat} {B C:List D} {S S1 S2:aN}
theorem PS.own(E:PS k b c B C S S1)(hm:S.length≤m)(hk:k < S.length)(hb:b≠m)(hc:c≠m)(v:Ev m S1 S2):PS k b c B C S S2:=by
 obtain⟨f,x,y,e⟩:=E.p
 exact⟨⟨v.p.1,x,y,by rw[v.oth k (by omega)];exact e⟩,by rw[v.len];exact E.len,fun j hj hjk=>by rw[v.oth j (by omega)];exact E.oth j hj hjk,by rw[v.oth b hb];exact E.eb,by rw[v.oth c hc];exact E.ec⟩
theorem PS.IQ(E:PS k b c B C S S1){C':List D}(hk:k < S.length)(hcS:S.length≤c)(hbc:b≠c):PS k b c B C' S (S1.set c (.lst C')):=by
 obtain⟨f,x,y,e⟩:=E.p
 exact⟨⟨f.set _ (pN _),x,y,by rw[List.getElem?_set_ne (by omega)];exact e⟩,by rw[List.length_set];exact E.len,fun j hj hjk=>by rw[List.getElem?_set_ne (by omega)];exact E.oth j hj hjk,by rw[List.getElem?_set_ne (Ne.symm hbc)];exact E.eb,mY E.ec⟩
theorem PS.JM(E:PS k b c B C S S1){B':List D}(hk:k < S.length)(hbS:S.length≤b)(hbc:b≠c):PS k b c B' C S (S1.set b (.lst B')):=by
 obtain⟨f,x,y,e⟩:=E.p
 exact⟨⟨f.set _ (pN _),x,y,by rw[List.getElem?_set_ne (by omega)];exact e⟩,by rw[List.length_set];exact E.len,fun j hj hjk=>by rw[List.getElem?_set_ne (by omega)];exact E.oth j hj hjk,mY E.eb,by rw[List.getElem?_set_ne hbc];exact E.ec⟩
end
noncomputable def lE(k b c:Nat)(cells insd:D)(ss:List Str)(a6 a7 a8:Option V3):DE:=[some (.loc k),some (.d cells),some (.d (.lst (ss.map .str))),some (.d insd),some (.loc b),some (.loc c),a6,a7,a8]
theorem za{k b c:Nat}{S S1:aN}{cells insd:D}{ss:List Str}{cell:Int}{a7 a8:Option V3}{gs:List Gt}{n:Nat}(hk:k < S.length)(hbS:S.length≤b)(hcS:S.length≤c)(hbc:b≠c)(hn:0 < n)(hn2:n < 1000)(hgl:gs.length < 1000)
 (E:PS k b c (((List.range (n+gs.length)).map fun(i:Nat)=>(i:Int)).map .int) (gs.map gp) S S1) :
 W3 (jg (lE k b c cells insd ss (some (.d (.int cell))) a7 a8) S1) fun o S2=>o= .nx (lE k b c cells insd ss (some (.d (.int cell))) a7 a8)∧∃g,nA (n+gs.length) g∧PS k b c (((List.range (n+gs.length+1)).map fun(i:Nat)=>(i:Int)).map .int) ((gs++[g]).map gp) S S2:=by
 have hz:sizeLine=16777216:=sizeLine_eq
 have lb:b < S1.length:=(List.getElem?_eq_some_iff.mp E.eb).1
 have lc:c < S1.length:=(List.getElem?_eq_some_iff.mp E.ec).1
 have hE:=E.len
 unfold jg lE
 refine bu <| kM (k:=c) rfl ⟨_,E.ec⟩ <| eD <| aG <| eD <| aG <| dP (d:= .int cell) rfl <| cJ <| x9 cell E.p.1 fun S2 p2 l2 o2=>?_
 have E2:PS k b c (((List.range (n+gs.length)).map fun(i:Nat)=>(i:Int)).map .int) (gs.map gp) S S2:=by
  obtain⟨f,u,y,e⟩:=E.p
  exact⟨⟨p2.1,u,y,by rw[o2 k (by omega)];exact e⟩,by omega,fun j hj hjk=>by rw[o2 j (by omega)];exact E.oth j hj hjk,by rw[o2 b lb];exact E.eb,by rw[o2 c lc];exact E.ec⟩
 have hmS:S.length≤S1.length:=by omega
 have hb:b≠S1.length:=by omega
 have hc:c≠S1.length:=by omega
 generalize S1.length=m at p2 l2 o2 hmS hb hc
 have hlr:((List.range (n+gs.length)).map fun(i:Nat)=>(i:Int)).length=n+gs.length:=by rw[List.length_map,List.length_range]
 refine aG <| w_var (v:= .loc b) rfl <| aG <| dP (d:= .int 1) rfl <| cJ <| yT (k:=m) p2 hb E2.eb (by rw[hlr];omega) (by rw[hlr];omega) fun g S3 hg v3=>?_
 rw[hlr] at hg
 have E3:=E2.own hmS hk hb hc v3
 refine⟨gp g,_,rfl,E3.ec,by rw[List.length_map];omega,_,rfl,?_⟩
 have E4:=E3.IQ (C':=gs.map gp++[gp g]) hk hcS hbc
 refine kM (k:=b) rfl ⟨_,E4.eb⟩ (xc (d:= .int ((n+gs.length:Nat):Int)) ((nE E4.eb rfl).trans (by rw[hlr])) rfl ⟨_,_,rfl,E4.eb,by rw[List.length_map,hlr];omega,rfl,g,hg,?_⟩)
 have E5:=E4.JM (B':=(((List.range (n+gs.length)).map fun(i:Nat)=>(i:Int)).map .int)++[.int ((n+gs.length:Nat):Int)]) hk hbS hbc
 rw[List.range_succ,List.map_append,List.map_append,List.map_append]
 exact E5
theorem zM{k b c o:Nat}{S S1:aN}{cells insd:D}{ss:List Str}{a6:Option V3}{n i:Nat}{os:List (Str × List Nat)}(hbk:b≠k)(hbo:b≠o)(hok:o≠k)(hn:0 < n)(hn2:n < 10000)(hss:ss.length=8)(hi:i < 8)(hol:os.length < 100)(eb:S[b]? =some (.lst (((List.range n).map fun(i:Nat)=>(i:Int)).map .int)))(E:qH k o (os.map sI) S S1) :
 W3 (jd (lE k b c cells insd ss a6 (some (.loc o)) (some (.d (nI i)))) S1) fun ou S2=>ou= .nx (lE k b c cells insd ss a6 (some (.loc o)) (some (.d (nI i))))∧∃s w,w < n∧qH k o ((os++[(s,[w])]).map sI) S S2:=by
 have hz:sizeLine=16777216:=sizeLine_eq
 have hlr:((List.range n).map fun(i:Nat)=>(i:Int)).length=n:=by rw[List.length_map,List.length_range]
 unfold jd lE
 have eb1:S1[b]? =some (.lst (((List.range n).map fun(i:Nat)=>(i:Int)).map .int)):=by rw[E.oth b hbk hbo];exact eb
 have hsi:i < ss.length:=by omega
 refine kM (k:=o) rfl ⟨_,E.gl⟩ <| rj <| aG <| dP (d:= .str ss[i]) (ax (a:= .lst (ss.map .str)) (b:=nI i) rfl rfl (NT.iX (by rw[List.getElem?_map,List.getElem?_eq_getElem hsi];rfl))) <| aG <| rj <| aG <| DZ <| xc (d:= .int ((n:Int) - 1)) (ax (a:= .int n) (b:= .int 1) ((nE eb1 rfl).trans (by rw[hlr])) rfl rfl) rfl <| D8 (k:=k) rfl E.p ((nE eb1 rfl).trans (by rw[hlr])) (by omega) (by omega) fun r S2 h1 h2 v2=>?_
 have E2:=E.then hok v2
 refine⟨_,_, .int (((n:Int) - 1 - r).toNat:Nat),rfl,rfl,by rw[Int.toNat_of_nonneg (by omega)];rfl,cJ ⟨by simp;omega,?_⟩⟩
 refine cJ ⟨by simp;omega,sI (ss[i],[((n:Int) - 1 - r).toNat]),os.map sI,rfl,E2.gl,by rw[List.length_map];omega,rfl,ss[i],((n:Int) - 1 - r).toNat,by omega,?_⟩
 rw[List.map_append]
 exact E2.put hok
end K16
end
section
set_option maxRecDepth 100000
set_option maxHeartbeats 400000
namespace K16
open PySem PySem.Spec PyProof.Rows L2 L3 MT
noncomputable def vt(ss:List Str)(n:Nat):List (Str × Nat):=(List.range n).map fun j=>(ss.getD (7 - j) Str.empty,1)
theorem mG{ss:List Str}{n:Nat}:(vt ss n).length=n:=by unfold vt;simp
theorem zx{ss:List Str}{n:Nat}:∀x∈vt ss n,x.2=1:=fun x hx=>by obtain⟨j,_,rfl⟩:=List.mem_map.mp hx;rfl
theorem vL(n:Nat):((List.range n).map fun(i:Nat)=>(i:Int)).map D.int=(List.range n).map nI:=by rw[List.map_map];rfl
theorem vw{S:aN}{k:Nat}{cs:List Int}(p:tG k S)(hcs:cs.length≤90){Q:V3→aN→Prop}
 (h:∀(l:List (Str × Nat)) (gs:List Gt) (os:List (Str × List Nat)) S1,Pl l.length l gs os→1≤l.length→l.length≤4→gs.length=cs.length→Ev k S S1→Q (.d (bz l gs os)) S1) :
 W3 (h_ [.loc k, .d (.lst (cs.map .int))] S) Q:=by
 have hz:sizeLine=16777216:=sizeLine_eq
 have hk:=p.lt
 unfold h_
 refine tM (vq rfl ?_)
 simp only[bQ,gP,List.map_cons,List.map_nil,List.length_cons,List.length_nil,List.replicate,List.cons_append,List.nil_append,Nat.reduceAdd,Nat.reduceSub]
 unfold kF
 refine bu <| bY (by simp only[List.length_cons,List.length_nil,List.length_set];omega) <| eD <| aG <| w_var (v:= .loc k) rfl <| aG <| dP (d:= .int 8) rfl <| cJ <| Aj (m:=8) p (by omega) fun ss S1 hss v1=>⟨_,rfl,?_⟩
 simp only[List.set_cons_succ,List.set_cons_zero]
 refine bu <| bY (by simp only[List.length_cons,List.length_nil,List.length_set];omega) <| kZ (fun i ds S3=>Ev k S S3∧ds=(vt ss i).map MT.inD) ?_
 refine sF <| A1 (k:=k) rfl v1.p (by omega) (by omega) fun n S2 hn1 hn4 v2=>⟨n,rfl,by omega,?_⟩
 have hn4:n≤4:=by omega
 have hrl:((cc 0 n).map V3.d).length=n:=by simp [cc]
 refine⟨by rw[hrl];omega,⟨v1.trans v2,rfl⟩,?_,?_⟩
 ·rintro i v ds S3 hv ⟨v3,rfl⟩
  rw[List.getElem?_map] at hv
  cases qq:(cc 0 n)[i]? with
  | none=>rw [qq] at hv;cases hv
  | some d0=>
    rw[qq] at hv
    obtain⟨hi,rfl⟩:=lU qq
    cases hv
    refine⟨[some (.d (nI i)),some (.d (.lst (ss.map .str)))],rfl,uJ ?_⟩
    rw[if_pos rfl]
    refine dP (d:=MT.inD (ss.getD (7 - i) Str.empty,1)) (cK (ds:=[.str (ss.getD (7 - i) Str.empty), .int 1]) (ay (ax (a:= .lst (ss.map .str)) (b:=nI (7 - i)) rfl (ax (a:= .int 7) (b:=nI i) rfl rfl ?_) (NT.iX ?_)) rfl) (by simp;omega)) ⟨_,rfl,v3,?_⟩
    ·show R.ok (D.int ((7:Int) - (i:Int)))= .ok (.int ((7 - i:Nat):Int))
     rw[Int.ofNat_sub (by omega)];rfl
    ·rw[List.getElem?_map,List.getD_eq_getElem?_getD,List.getElem?_eq_getElem (by omega)];rfl
    ·unfold vt
     rw[List.range_succ,List.map_append,List.map_append];rfl
 rintro ds S3 ⟨v3,rfl⟩
 rw[hrl]
 refine⟨_,rfl,?_⟩
 simp only[List.set_cons_succ,List.set_cons_zero]
 refine bu <| bY (by simp only[List.length_cons,List.length_nil,List.length_set];omega) <| jn (ds:=(List.range n).map nI) ?_ ⟨_,rfl,?_⟩
 ·unfold Gp
  rw[aM (ds:=[.lst ((vt ss n).map MT.inD)]) (ay rfl rfl) (lh _),R.aH]
  rw[List.length_map,mG]
  show R.bC (decide (-(2 ^ 62)≤(n:Int)∧(n:Int) < 16777216)) (.ok (cc 0 (n:Int).toNat))=_
  rw[bH _ ⟨by omega,by omega⟩,Int.toNat_natCast,l5]
 simp only[List.set_cons_succ,List.set_cons_zero]
 refine bu <| bY (by simp only[List.length_cons,List.length_nil,List.length_set];omega) <| jn (ds:=[]) rfl ⟨_,rfl,?_⟩
 simp only[List.set_cons_succ,List.set_cons_zero]
 have l3:=v3.len
 rw[l3,show(S3++[SO.lst ((List.range n).map nI)]).length=S.length+1 by simp [l3]]
 have E0:PS k S.length (S.length+1) (((List.range (n+([]:List Gt).length)).map fun(i:Nat)=>(i:Int)).map .int) (([]:List Gt).map gp) S (S3++[.lst ((List.range n).map nI)]++[.lst []]):=by
  refine⟨(v3.p.push _).push _,by simp [l3],fun j hj hjk=>by rw[List.getElem?_append_left (by simp;omega),List.getElem?_append_left (by omega)];exact v3.oth j hjk,?_,?_⟩
  ·rw[vL,List.getElem?_append_left (by simp;omega),←l3];exact bO _ _
  ·have:=bO (S3++[SO.lst ((List.range n).map nI)]) (SO.lst [])
   rw[show(S3++[SO.lst ((List.range n).map nI)]).length=S.length+1 by simp [l3]] at this
   exact this
 refine bu <| gO <| k7 (ds:=cs.map .int) (iM rfl) ?_
 refine(cz (fun i δ S4=>(∃a6,δ=lE k S.length (S.length+1) (.lst (cs.map .int)) (.lst ((vt ss n).map MT.inD)) ss a6 none none)∧∃gs:List Gt,gs.length=i∧(∀(j:Nat) (g:Gt),gs[j]? =some g→nA (n+j) g)∧PS k S.length (S.length+1) (((List.range (n+gs.length)).map fun(i:Nat)=>(i:Int)).map .int) (gs.map gp) S S4)
  ⟨⟨none,rfl⟩,[],rfl,by simp,E0⟩ ?_).mono fun o S4 ⟨δ4,e4,⟨a6,hδ⟩,gs,hgl,hgs,E4⟩=>⟨δ4,e4,?_⟩
 ·rintro i v δ S4 hv ⟨⟨a6,rfl⟩,gs,hgl,hgs,E4⟩
  have hi:i < cs.length:=by
   have:=(List.getElem?_eq_some_iff.mp hv).1
   rwa [List.length_map,List.length_map] at this
  obtain⟨c,hc,rfl⟩:=NT.jb hv
  refine⟨lE k S.length (S.length+1) (.lst (cs.map .int)) (.lst ((vt ss n).map MT.inD)) ss (some (.d (.int c))) none none,rfl,?_⟩
  refine(za hk (Nat.le_refl _) (by omega) (by omega) (by omega) (by omega) (by omega) E4).mono fun o S5 ⟨e5,g,hg,E5⟩=>⟨_,e5,⟨_,rfl⟩,gs++[g],by simp [hgl],?_,?_⟩
  ·intro j g' hj
   by_cases hjl:j < gs.length
   ·rw[List.getElem?_append_left hjl] at hj;exact hgs j g' hj
   ·rw[List.getElem?_append_right (by omega)] at hj
    have h0:j - gs.length=0:=by
     have:=(List.getElem?_eq_some_iff.mp hj).1
     simp at this;omega
    rw[h0] at hj
    cases hj
    rw[show j=gs.length by omega]
    exact hg
  ·rw[List.length_append,List.length_singleton,←Nat.add_assoc];exact E5
 rw[List.length_map,List.length_map] at hgl
 subst hδ
 unfold lE
 refine bu <| bY (by simp only[List.length_cons,List.length_nil,List.length_set];omega) <| jn (ds:=[]) rfl ⟨_,rfl,?_⟩
 simp only[List.set_cons_succ,List.set_cons_zero]
 have hl4:=E4.len
 have h4b:=(List.getElem?_eq_some_iff.mp E4.eb).1
 have h4c:=(List.getElem?_eq_some_iff.mp E4.ec).1
 refine bu <| gO <| sF <| A1 (k:=k) rfl (E4.p.push []) (by omega) (by omega) fun no S5 ho1 ho4 v5=>⟨no,rfl,by omega,?_⟩
 have G0:qH k S4.length (([]:List (Str × List Nat)).map sI) (S4++[.lst []]) S5:=(qH.so E4.p []).then (by omega) v5
 have ebP:(S4++[SO.lst []])[S.length]? =some (.lst (((List.range (n+gs.length)).map fun(i:Nat)=>(i:Int)).map .int)):=by rw[List.getElem?_append_left h4b];exact E4.eb
 refine(cz (fun i δ S6=>(∃a8,δ=lE k S.length (S.length+1) (.lst (cs.map .int)) (.lst ((vt ss n).map MT.inD)) ss a6 (some (.loc S4.length)) a8)∧∃os:List (Str × List Nat),os.length=i∧(∀x∈os,∃w,x.2=[w]∧w < n+gs.length)∧qH k S4.length (os.map sI) (S4++[.lst []]) S6)
  ⟨⟨none,rfl⟩,[],rfl,by simp,G0⟩ ?_).mono fun o S6 ⟨δ6,e6,⟨a8,hδ⟩,os,hol,hos,G6⟩=>⟨δ6,e6,?_⟩
 ·rintro i v δ S6 hv ⟨⟨a8,rfl⟩,os,hol,hos,G6⟩
  rw[List.getElem?_map] at hv
  cases qq:(cc 0 no)[i]? with
  | none=>rw [qq] at hv;cases hv
  | some d0=>
    rw[qq] at hv
    obtain⟨hi,rfl⟩:=lU qq
    cases hv
    refine⟨lE k S.length (S.length+1) (.lst (cs.map .int)) (.lst ((vt ss n).map MT.inD)) ss a6 (some (.loc S4.length)) (some (.d (nI i))),rfl,?_⟩
    refine(zM (by omega) (by omega) (by omega) (by omega) (by omega) hss (by omega) (by omega) ebP G6).mono fun ou S7 ⟨e7,s,w,hw,G7⟩=>⟨_,e7,⟨_,rfl⟩,os++[(s,[w])],by simp [hol],?_,G7⟩
    intro x hx
    rcases List.mem_append.mp hx with z | z
    ·exact hos x z
    ·rw[List.mem_singleton] at z;subst z;exact⟨w,rfl,hw⟩
 have hrl2:((cc 0 no).map V3.d).length=no:=by simp [cc]
 rw[hrl2] at hol
 subst hδ
 unfold lE
 have e6c:S6[S.length+1]? =some (.lst (gs.map gp)):=by rw[G6.oth _ (by omega) (by omega),List.getElem?_append_left h4c];exact E4.ec
 have l6:S6.length=S4.length+1:=by rw[G6.len];simp
 refine gu <| rj <| aG <| w_var (v:= .d (.lst ((vt ss n).map MT.inD))) rfl <| aG <| w_var (v:= .loc (S.length+1)) rfl <| aG <| w_var (v:= .loc S4.length) rfl <| cJ ⟨by simp;omega,_,rfl,G6.p.1,?_,bz (vt ss n) gs os,?_,?_⟩
 ·show eO S.length (.tup [.d (.lst ((vt ss n).map MT.inD)), .loc (S.length+1), .loc S4.length])=true
  simp [eO,lx];omega
 ·show res S6 (.tup [.d (.lst ((vt ss n).map MT.inD)), .loc (S.length+1), .loc S4.length])=_
  simp [res,kJ,e6c,G6.gl,bz]
 ·have hwid:ni (vt ss n)=n:=by rw[l_ zx,mG,Nat.one_mul]
  refine h (vt ss n) gs os _ ⟨⟨by rw[mG];omega,fun x hx=>by rw[zx x hx];omega,by omega,fun j g hj=>by rw[hwid];exact hgs j g hj,by omega,fun x hx=>?_⟩,rfl,zx,fun x hx=>?_⟩ (by rw[mG];omega) (by rw[mG];omega) hgl ⟨⟨G6.p.1.take _,?_⟩,by rw[List.length_take];omega,fun j hj=>?_⟩
  ·obtain⟨w,e,hw⟩:=hos x hx
   rw[e,hwid]
   exact⟨by simp,fun v hv=>by rw[List.mem_singleton.mp hv];exact hw⟩
  ·obtain⟨w,e,_⟩:=hos x hx
   exact⟨w,e⟩
  ·obtain⟨_,a,c,e⟩:=G6.p
   exact⟨a,c,by rw[List.getElem?_take_of_lt hk];exact e⟩
  ·by_cases hjl:j < S.length
   ·rw[List.getElem?_take_of_lt hjl,G6.oth j hj (by omega),List.getElem?_append_left (by omega),E4.oth j hjl hj]
   ·rw[List.getElem?_eq_none (by rw[List.length_take];omega),List.getElem?_eq_none (by omega)]
end K16
end
section
set_option maxRecDepth 100000
set_option maxHeartbeats 400000
namespace K16
open PySem PySem.Spec PyProof.Rows L2 L3 MT
section
variable {c:Nat} {ins:List (Str × Nat)} {gs:List Gt} {os:List (Str × List Nat)}
theorem Ee(P:Pl c ins gs os)(T:List Int)(p:Nat):RD c ins gs os T p=os.map fun x=>D.int (if wv c ins gs T (x.2.getD 0 0) p then 1 else 0):=by
 unfold RD
 refine List.map_congr_left fun x hx=>?_
 obtain⟨w,hw⟩:=P.o1 x hx
 rw[zO hw,hw]
 show tD _=D.int (if wv c ins gs T w p then 1 else 0)
 cases wv c ins gs T w p <;> rfl
theorem AH(P:Pl c ins gs os)(T:List Int)(p:Nat):tF (.lst (RD c ins gs os T p)) (.lst (RD c ins gs os [] p))= .ok (.bl (lR false c ins gs os T p)):=by
 refine(qo (k:=!lR false c ins gs os T p) ?_).trans (by rw[Bool.not_not])
 rw[Ee P,Ee P]
 unfold jA
 rw[yK (fun x:Str × List Nat=>if wv c ins gs T (x.2.getD 0 0) p then(1:Int) else 0) (fun x=>if wv c ins gs [] (x.2.getD 0 0) p then(1:Int) else 0)]
 rw[D7 P]
 show R.ok (D.bl _)=R.ok (D.bl _)
 congr 2
 rw[Bool.eq_iff_iff,Bool.not_eq_true',List.any_eq_false,List.all_eq_true]
 constructor
 ·intro h x hx
  have:=h x hx
  revert this
  cases wv c ins gs T (x.2.getD 0 0) p <;> cases wv c ins gs [] (x.2.getD 0 0) p <;> decide
 ·intro h x hx
  have:=h x hx
  revert this
  cases wv c ins gs T (x.2.getD 0 0) p <;> cases wv c ins gs [] (x.2.getD 0 0) p <;> decide
theorem BQ{α:Type}(p:α→Bool):∀xs:List α,(xs.findSome? fun x=>if p x then some (D.bl true) else none)=if xs.any p then some (D.bl true) else none
 | []=>rfl
 | x ::xs=>by
   rw[List.findSome?_cons,List.any_cons]
   cases p x with
   | true=>rfl
   | false=>rw [Bool.false_or];exact BQ p xs
theorem yM(P:Pl c ins gs os)(hc:c≤10):gm [bz ins gs os]= .ok (.bl (lq c ins gs os)):=by
 have hz:sizeLine=16777216:=sizeLine_eq
 have hg:=P.no.hg
 have ho:∀x∈os,1≤x.2.length∧x.2.length≤3:=fun x hx=>by obtain⟨w,hw⟩:=P.o1 x hx;rw [hw];exact⟨by simp,by simp⟩
 have hpow:2 ^ c≤1024:=Nat.pow_le_pow_right (by omega) hc
 unfold gm nc
 obtain⟨o,e,h⟩:=l7 (t:=aJ 1) (body:=iy) nI (fun i=>if(match gs[i]? with | some g=>!g.2.2 | none=>false) && (List.range (2 ^ c)).any (lR false c ins gs os (nZ [i])) then some (D.bl true) else none) (fun δ=>∃a1 a2 a3,δ=[.val (bz ins gs os),a1,a2,a3]) (xs:=List.range gs.length) (δ:=[.val (bz ins gs os), .un, .un, .un]) ⟨_,_,_,rfl⟩ (by
  rintro i hi δ ⟨a1,a2,a3,rfl⟩
  rw[List.mem_range] at hi
  have hgi:gs[i]? =some gs[i]:=List.getElem?_eq_getElem hi
  rw[show aJ 1 (nI i) [.val (bz ins gs os),a1,a2,a3]= .ok [.val (bz ins gs os), .val (nI i),a2,a3] from rfl,R.aH]
  unfold iy
  obtain⟨o,e,h⟩:=l7 (t:=aJ 2) (body:=ik) (fun p=>bR ((bx c).getD p [])) (fun p=>if(!gs[i].2.2) && lR false c ins gs os (nZ [i]) p then some (D.bl true) else none) (fun δ=>∃a2 a3,δ=[.val (bz ins gs os), .val (nI i),a2,a3]) (xs:=List.range (2 ^ c)) (δ:=[.val (bz ins gs os), .val (nI i),a2,a3]) ⟨_,_,rfl⟩ (by
   rintro p hp δ ⟨a2,a3,rfl⟩
   rw[List.mem_range] at hp
   have hpb:(bx c)[p]? =some ((bx c).getD p []):=by rw[List.getD_eq_getElem?_getD,List.getElem?_eq_getElem (by rw[cq];exact hp)];rfl
   generalize (bx c).getD p []=bits at hpb
   rw[show aJ 2 (bR bits) [.val (bz ins gs os), .val (nI i),a2,a3]= .ok [.val (bz ins gs os), .val (nI i), .val (bR bits),a3] from rfl,R.aH]
   unfold ik
   have r1:aK c6 (aj (af 0) (aj (af 2) (aj (cP (aj (af 1) aI)) (aj (cP aI) aI)))) [.val (bz ins gs os), .val (nI i), .val (bR bits),a3]= .ok (.lst (RD c ins gs os (nZ [i]) p)):=
    aM (ds:=[bz ins gs os,bR bits, .tup ((nZ [i]).map .int), .tup []]) (ay rfl (ay rfl (ay (cK (ds:=[nI i]) rfl (by simp;omega)) (ay (cK (ds:=[]) rfl (by simp)) rfl)))) (mX P.no P.hc ho hpb)
   have r0:aK c6 (aj (af 0) (aj (af 2) (aj (cP aI) (aj (cP aI) aI)))) [.val (bz ins gs os), .val (nI i), .val (bR bits), .val (.lst (RD c ins gs os (nZ [i]) p))]= .ok (.lst (RD c ins gs os [] p)):=
    aM (ds:=[bz ins gs os,bR bits, .tup (([]:List Int).map .int), .tup []]) (ay rfl (ay rfl (ay (cK (ds:=[]) rfl (by simp)) (ay (cK (ds:=[]) rfl (by simp)) rfl)))) (mX P.no P.hc ho hpb)
   have hcnd:mK (k8 (k9 (e2 cb (e2 cb (e2 cb (af 0) (eC (.int 1))) (af 1)) (eC (.int 2))))) (b2 tF (af 3) (aK c6 (aj (af 0) (aj (af 2) (aj (cP aI) (aj (cP aI) aI)))))) [.val (bz ins gs os), .val (nI i), .val (bR bits), .val (.lst (RD c ins gs os (nZ [i]) p))]= .ok ((!gs[i].2.2) && lR false c ins gs os (nZ [i]) p):=by
    unfold mK
    have h1:k8 (k9 (e2 cb (e2 cb (e2 cb (af 0) (eC (.int 1))) (af 1)) (eC (.int 2)))) [.val (bz ins gs os), .val (nI i), .val (bR bits), .val (.lst (RD c ins gs os (nZ [i]) p))]= .ok (!gs[i].2.2):=by
     unfold k8 k9
     rw[ax (a:=gp gs[i]) (b:= .int 2) (ax (a:= .lst (gs.map gp)) (b:=nI i) (ax (a:=bz ins gs os) (b:= .int 1) rfl rfl rfl) rfl (NT.iX (by rw[List.getElem?_map,hgi];rfl))) rfl (show cb (gp gs[i]) (.int 2)= .ok (.bl gs[i].2.2) from rfl)]
     rfl
    rw[h1,R.aH]
    cases gs[i].2.2 with
    | true=>rfl
    | false=>exact iW rfl r0 (AH P _ p)
   cases q:(!gs[i].2.2) && lR false c ins gs os (nZ [i]) p with
   | true=>rw [q] at hcnd;exact⟨_,bA (fI r1 (by simp)) (n5 hcnd (cI rfl)),rfl⟩
   | false=>rw [q] at hcnd;exact⟨_,bA (fI r1 (by simp)) (iB hcnd rfl),_,rfl,_,_,rfl⟩)
  rw[BQ] at h
  refine⟨o,gn (ds:=(List.range (2 ^ c)).map fun p=>bR ((bx c).getD p [])) ?_ e,?_⟩
  ·refine iM ?_
   have he:(List.range (2 ^ c)).map (fun p=>bR ((bx c).getD p []))=(bx c).map bR:=by
    refine List.ext_getElem? fun j=>?_
    rw[List.getElem?_map,List.getElem?_map]
    by_cases hj:j < 2 ^ c
    ·rw[List.getElem?_range hj,List.getElem?_eq_getElem (by rw[cq];exact hj)]
     show some (bR ((bx c).getD j []))=_
     rw[List.getD_eq_getElem?_getD,List.getElem?_eq_getElem (by rw[cq];exact hj)];rfl
    ·rw[List.getElem?_eq_none (by simp;omega),List.getElem?_eq_none (by rw[cq];omega)];rfl
   rw[he]
   exact aM (ds:=[nI c]) (ay (aM (ds:=[.lst (ins.map MT.inD)]) (ay (ax (a:=bz ins gs os) (b:= .int 0) rfl rfl rfl) rfl) (by rw[lh,List.length_map,P.hc];rfl)) rfl) (yH hc)
  ·rw[hgi]
   show match (if((!gs[i].2.2) && (List.range (2 ^ c)).any (lR false c ins gs os (nZ [i])))=true then some (D.bl true) else none) with | _=>_
   have ha:((List.range (2 ^ c)).any fun p=>(!gs[i].2.2) && lR false c ins gs os (nZ [i]) p)=((!gs[i].2.2) && (List.range (2 ^ c)).any (lR false c ins gs os (nZ [i]))):=by
    cases gs[i].2.2 with
    | true=>rw [List.any_eq_false.mpr (fun _ _=>by simp)];rfl
    | false=>rfl
   rw[ha] at h
   cases q:(!gs[i].2.2) && (List.range (2 ^ c)).any (lR false c ins gs os (nZ [i])) with
   | true=>rw [q] at h;exact h
   | false=>rw [q] at h;obtain⟨δ2,e2',b2',b3,e3⟩:=h;exact⟨δ2,e2',_,b2',b3,e3⟩)
 rw[BQ] at h
 have hsp:((List.range gs.length).any fun i=>(match gs[i]? with | some g=>!g.2.2 | none=>false) && (List.range (2 ^ c)).any (lR false c ins gs os (nZ [i])))=lq c ins gs os:=by
  unfold lq lZ
  rw[List.any_filter] <;> rfl
 rw[hsp] at h
 have hit:dn (aK dz (aj (e2 cb (af 0) (eC (.int 1))) aI)) [.val (bz ins gs os), .un, .un, .un]= .ok ((List.range gs.length).map nI):=by
  rw[←l5]
  exact d9 (n:=gs.length) (aM (ds:=[.lst (gs.map gp)]) (ay (ax (a:=bz ins gs os) (b:= .int 1) rfl rfl rfl) rfl) (by rw[lh,List.length_map])) (by omega)
 cases q:lq c ins gs os with
 | true=>
   rw[q] at h
   have h:o= .rt (D.bl true):=h
   subst h
   exact dm (NT.j1 (gn hit e))
 | false=>
   rw[q] at h
   obtain⟨δ2,rfl,b1,b2',b3,rfl⟩:=h
   exact dm (bA (gn hit e) (cI rfl))
end
end K16
end
section
set_option maxRecDepth 100000
set_option maxHeartbeats 400000
namespace K16
open PySem PySem.Spec PyProof.Rows L2 L3 MT
theorem Ds(ns:List Int)(k:Nat):∃c:Int,eA [.lst (ns.map .int), .int k]= .ok (.int c):=by
 by_cases h:k < ns.length
 ·refine⟨ns[k],?_⟩
  unfold eA je
  refine dm ?_
  have e:mr (b2 zr (af 1) (aK dz (aj (af 0) aI))) (dQ (e2 cb (af 0) (af 1))) gU (cY jh [.lst (ns.map .int), .int k])= .ok (.rt (.int ns[k])):=by
   refine n5 ?_ (cI (ax (a:= .lst (ns.map .int)) (b:= .int k) rfl rfl (pB (Gu (by rw[List.getElem?_map,List.getElem?_eq_getElem h];rfl)))))
   refine iW (a:= .int k) (b:= .int ns.length) rfl (aM (ds:=[.lst (ns.map .int)]) rfl (by rw[lh,List.length_map])) ?_
   show R.ok (D.bl (decide ((k:Int) < (ns.length:Int))))=_
   rw[decide_eq_true (by omega)]
  unfold dj
  rw[e];rfl
 ·refine⟨0,?_⟩
  unfold eA je
  refine dm (bA (iB ?_ rfl) rfl)
  refine iW (a:= .int k) (b:= .int ns.length) rfl (aM (ds:=[.lst (ns.map .int)]) rfl (by rw[lh,List.length_map])) ?_
  show R.ok (D.bl (decide ((k:Int) < (ns.length:Int))))=_
  rw[decide_eq_false (by omega)]
theorem CC(ns:List Int)(lo hi:Option Int):L2.cutD (ns.map D.int) lo hi=(L2.cutD ns lo hi).map D.int:=by
 unfold L2.cutD
 rw[List.length_map,List.map_take,List.map_drop]
theorem CZ:(10000000000000000000000000000000000000000:Int).natAbs.log2 < 9000:=by decide+kernel
theorem Hh{f g:FB}{δ:DE}{S:aN}{QB:Bool→aN→Prop}(h:W3 (f δ S) fun b S1=>(b=true∧QB true S1)∨(b=false∧W3 (g δ S1) QB)):W3 (JL f g δ S) QB:=W3.bind (h.mono fun b S1 h=>by
 rcases h with⟨rfl,q⟩ | ⟨rfl,q⟩
 ·rw[if_pos rfl];exact W3.ok q
 ·rw[if_neg (by decide)];exact q)
theorem FU(ns:List Int):(L2.cutD ns (some 1) (some 16)).length≤15:=by
 unfold L2.cutD
 rw[show(some (1:Int))=some ((1:Nat):Int) from rfl,show(some (16:Int))=some ((16:Nat):Int) from rfl,HT.rX,HT.rX,List.length_take]
 omega
noncomputable def pS(gs:List Gt):List Gt:=gs.map fun g=>(g.1,g.2.1,true)
theorem BG(gs:List Gt):lZ (pS gs)=[]:=by
 rw[List.eq_nil_iff_forall_not_mem]
 intro x hx
 obtain⟨g,hg,hs⟩:=pd.mp hx
 unfold pS at hg
 rw[List.getElem?_map] at hg
 cases q:gs[x]? with
 | none=>rw [q] at hg;cases hg
 | some g'=>rw [q] at hg;cases hg;cases hs
theorem A_{ins:List (Str × Nat)}{gs:List Gt}{os:List (Str × List Nat)}(N:g8 ins gs os):g8 ins (pS gs) os:=by
 have hl:(pS gs).length=gs.length:=by unfold pS;rw [List.length_map]
 refine⟨N.hi,N.hw,by rw[hl];exact N.hg,fun i x hx=>?_,N.ho,fun x hx=>by rw[hl];exact N.o x hx⟩
 unfold pS at hx
 rw[List.getElem?_map] at hx
 cases q:gs[i]? with
 | none=>rw [q] at hx;cases hx
 | some g=>rw [q] at hx;cases hx;exact N.g i g q
theorem Df:∀s,1≤s→kf [] s=[]
 | s+1,_=>rfl
noncomputable def wE(sc cs nt th pr:D)(k:Nat)(a3 a7 a8 a9:Option V3):DE:=[some (.d sc),some (.loc k),some (.d cs),a3,some (.d nt),some (.d th),some (.d pr),a7,a8,a9]
theorem Bv(ns:List Int)(hns:ns.length≤63):xE [.lst (ns.map D.int)]= .ok (.bl true):=by
 have hz:sizeLine=16777216:=sizeLine_eq
 have key:W3 (n4 oa rM [.d (.lst (ns.map .int))] []) fun v S1=>v= .d (.bl true)∧S1=[]:=by
  refine tM (vq rfl ?_)
  simp only[bQ,oa,List.map_cons,List.map_nil,List.length_cons,List.length_nil,List.replicate,List.cons_append,List.nil_append,Nat.reduceAdd,Nat.reduceSub]
  unfold rM
  obtain⟨c0,ec0⟩:=Ds ns 0
  refine bu <| bY (by simp only[List.length_cons,List.length_nil,List.length_set];omega) <| eD <| aG <| dP (d:= .int c0) (aM (ds:=[.lst (ns.map .int), .int 0]) rfl ec0) <| cJ <| x9 c0 Flat.nil fun S1 p1 l1 _=>⟨_,rfl,?_⟩
  simp only[List.set_cons_succ,List.set_cons_zero]
  simp only[List.length_nil] at p1 l1 ⊢
  refine bu <| bY (by simp only[List.length_cons,List.length_nil,List.length_set];omega) <| dP (d:= .lst ((L2.cutD ns (some 1) (some 16)).map .int)) (by rw[←CC];rfl) ⟨_,rfl,?_⟩
  simp only[List.set_cons_succ,List.set_cons_zero]
  have hcs:=FU ns
  generalize L2.cutD ns (some 1) (some 16)=cs at hcs
  refine bu <| gO <| k7 (ds:=cc 0 (2 - (cs.length:Int)).toNat) ?_ ?_
  ·have e:e2 jr (eC (.int 2)) (aK dz (aj (af 2) aI)) (down [some (.d (.lst (ns.map .int))),some (.loc 0),some (.d (.lst (cs.map .int))),none,none,none,none,none,none,none])= .ok (.int (2 - (cs.length:Int))):=
    ax (a:= .int 2) (b:= .int cs.length) rfl (aM (ds:=[.lst (cs.map .int)]) rfl (by rw[lh,List.length_map])) rfl
   unfold dn
   rw[e,R.aH]
   show R.bC (decide (-(2 ^ 62)≤2 - (cs.length:Int)∧2 - (cs.length:Int) < 2 ^ 62)) _=_
   rw[bH _ ⟨by omega,by omega⟩]
  refine(cz (fun i δ S2=>tG 0 S2∧∃(ds:List Int) (a3:Option V3),ds.length=cs.length+i∧δ=[some (.d (.lst (ns.map .int))),some (.loc 0),some (.d (.lst (ds.map .int))),a3,none,none,none,none,none,none])
   ⟨p1,cs,none,rfl,rfl⟩ ?_).mono fun o S2 ⟨δ2,e2',p2,ds,a3,hds,hδ⟩=>⟨δ2,e2',?_⟩
  ·rintro i v δ S2 hv ⟨p2,ds,a3,hds,rfl⟩
   have hi:i < 4:=by
    have:=(List.getElem?_eq_some_iff.mp hv).1
    rw[List.length_map,cc,List.length_map,List.length_range] at this
    omega
   refine⟨_,rfl,?_⟩
   unfold yd
   refine bY (by simp only[List.length_cons,List.length_nil,List.length_set];omega) <| DZ <| dP (d:= .lst (ds.map .int)) rfl <| HP <| aG <| eD <| aG <| w_var (v:= .loc 0) rfl <| aG <| dP (d:= .int 10000000000000000000000000000000000000000) ?_ <| cJ <| sY p2 (by omega) CZ fun r S3 h1 h2 v3=>cJ ⟨by simp;omega,_,_, .lst ((ds++[r]).map .int),rfl,rfl,?_,_,rfl,v3.p,ds++[r],some v,by simp [hds];omega,rfl⟩
   ·exact rfl
   ·rw[List.map_append]
    exact sR (by rw[List.length_map];simp;omega)
  have hdl:ds.length≤17:=by
   rw[List.length_map,cc,List.length_map,List.length_range] at hds
   omega
  subst hδ
  refine bu <| bY (by simp only[List.length_cons,List.length_nil,List.length_set];omega) <| eD <| aG <| w_var (v:= .loc 0) rfl <| aG <| dP (d:= .lst (ds.map .int)) rfl <| cJ <| vw p2 (by omega) fun l gs os S3 P hl1 hl4 hgl v3=>⟨_,rfl,?_⟩
  simp only[List.set_cons_succ,List.set_cons_zero]
  have hcl:wA S3:=v3.p.1.J7
  refine bu <| bY (by simp only[List.length_cons,List.length_nil,List.length_set];omega) <| eD <| aG <| dP (d:=bz l gs os) rfl <| aG <| dP (d:=nI 3) rfl <| cJ <| xQ P (by omega) (by omega) (by omega) hcl ⟨_,rfl,?_⟩
  simp only[List.set_cons_succ,List.set_cons_zero]
  refine bu <| bY (by simp only[List.length_cons,List.length_nil,List.length_set];omega) <| eD <| aG <| dP (d:=bz l gs os) rfl <| aG <| dP (d:=nI 2) rfl <| cJ <| xQ P (by omega) (by omega) (by omega) hcl ⟨_,rfl,?_⟩
  simp only[List.set_cons_succ,List.set_cons_zero]
  have N3:=Bp (m:=3) (by omega) P.no P.w1 P.o1 (by omega)
  have N2:=Bp (m:=2) (by omega) P.no P.w1 P.o1 (by omega)
  have hlM:∀m,(fF m l).length=l.length:=fun m=>kB
  have hoM:∀m,1≤m→m≤3→∀x∈oV m os,1≤x.2.length∧x.2.length≤3:=fun m h1 h3 x hx=>by
   obtain⟨y,_,rfl⟩:=List.mem_map.mp hx
   show 1≤((List.range m).map _).length∧((List.range m).map _).length≤3
   rw[List.length_map,List.length_range];exact⟨h1,h3⟩
  have hgM:∀m,m≤3→(el m gs).length≤100:=fun m h=>by
   rw[jx]
   have:=Nat.mul_le_mul h (show gs.length≤17 by omega)
   omega
  have hF:=v3.p.1
  generalize hn3:bz (fF 3 l) (el 3 gs) (oV 3 os)=n3
  generalize hn2:bz (fF 2 l) (el 2 gs) (oV 2 os)=n2
  have b3:∀(m:Nat) (safe:Bool) (Q:V3→aN→Prop),m≤1→Q (.d gc) S3→W3 (fD [.d n3, .d (nI m), .d (.str (qz safe))] S3) Q:=fun m safe Q hm h=>by
   rw[←hn3]
   refine mU (c:=l.length) N3 (hlM 3) (by omega) (hoM 3 (by omega) (by omega)) (hgM 3 (by omega)) (by omega) hF ?_
   rw[uO P hm]
   exact h
  have b2s:∀(m:Nat) (Q:V3→aN→Prop),m≤1→Q (.d gc) S3→W3 (fD [.d n2, .d (nI m), .d (.str (qz true))] S3) Q:=fun m Q hm h=>by
   rw[←hn2]
   refine mU (c:=l.length) N2 (hlM 2) (by omega) (hoM 2 (by omega) (by omega)) (hgM 2 (by omega)) (by omega) hF ?_
   rw[yJ P hm]
   exact h
  refine bu <| gO <| k7 (ds:=[(n3,false),(n3,true),(n2,true)].map fun x:D × Bool=>D.tup [x.1, .str (qz x.2)]) (iM rfl) ?_
  refine(cz (fun i δ S4=>S4=S3∧∃a7 a8,δ=wE (.lst (ns.map .int)) (.lst (ds.map .int)) (bz l gs os) n3 n2 0 a3 a7 a8 none)
   ⟨rfl,_,_,rfl⟩ ?_).mono fun o S4 ⟨δ4,e4,hS4,a7,a8,hδ⟩=>⟨δ4,e4,?_⟩
  ·rintro i v δ S4 hv ⟨rfl,a7,a8,rfl⟩
   obtain⟨⟨n,s⟩,hx,rfl⟩:=NT.jb hv
   have hb:∀(m:Nat) (Q:V3→aN→Prop),m≤1→Q (.d gc) S4→W3 (fD [.d n, .d (nI m), .d (.str (qz s))] S4) Q:=by
    have:=List.mem_of_getElem? hx
    simp only[List.mem_cons,List.not_mem_nil,or_false,Prod.mk.injEq] at this
    rcases this with⟨rfl,rfl⟩ | ⟨rfl,rfl⟩ | ⟨rfl,rfl⟩
    ·exact fun m Q=>b3 m false Q
    ·exact fun m Q=>b3 m true Q
    ·exact b2s
   refine⟨wE (.lst (ns.map .int)) (.lst (ds.map .int)) (bz l gs os) n3 n2 0 a3 (some (.d n)) (some (.d (.str (qz s)))) none,rfl,?_⟩
   unfold xC wE
   refine wz <| Hh <| Fs <| eD <| aG <| dP (d:=n) rfl <| aG <| dP (d:=nI 1) rfl <| aG <| dP (d:= .str (qz s)) rfl <| cJ <| hb 1 _ (by omega) <| dP (d:=gc) (cK rfl (by simp;omega)) ⟨_,_,false,rfl,rfl,qo oY, .inr ⟨rfl,?_⟩⟩
   refine Fs <| eD <| aG <| dP (d:=n) rfl <| aG <| dP (d:=nI 0) rfl <| aG <| dP (d:= .str (qz s)) rfl <| cJ <| hb 0 _ (by omega) <| dP (d:=gc) (cK rfl (by simp;omega)) ⟨_,_,false,rfl,rfl,qo oY,?_⟩
   rw[if_neg (by decide)]
   exact ph ⟨_,rfl,rfl,_,_,rfl⟩
  rw[hS4]
  subst hδ
  unfold wE
  refine z6 <| wz <| Fs <| DZ <| eD <| aG <| dP (d:=n2) rfl <| aG <| dP (d:=nI 1) rfl <| aG <| dP (d:= .str (qz false)) rfl <| cJ ?_
  rw[←hn2]
  refine mU (c:=l.length) N2 (hlM 2) (by omega) (hoM 2 (by omega) (by omega)) (hgM 2 (by omega)) (by omega) hF ?_
  rw[hn2]
  refine dP (d:=gc) (cK rfl (by simp;omega)) ⟨_,_,_,rfl,rfl,yn P,?_⟩
  refine dP (d:= .bl (lq l.length l gs os)) (aM (ds:=[bz l gs os]) rfl (yM P (by omega))) ⟨_,_,false,rfl,rfl,by cases lq l.length l gs os <;> rfl,?_⟩
  rw[if_neg (by decide)]
  refine ph ?_
  refine bu <| bY (by simp only[List.length_cons,List.length_nil,List.length_set];omega) <| kZ (fun j ds S4=>S4=S3∧ds=(pS ((el 3 gs).take j)).map gp) (k7 (ds:=(el 3 gs).map gp) (iM (ax (a:=n3) (b:= .int 1) rfl rfl (by rw[←hn3];rfl))) ⟨by rw[List.length_map,List.length_map];have:=hgM 3 (by omega);omega,⟨rfl,rfl⟩,?_,?_⟩)
  ·rintro j v ds S4 hv ⟨rfl,rfl⟩
   obtain⟨g,hg,rfl⟩:=NT.jb hv
   refine⟨[some (.d (.str (kS g.1))),some (.d (.tup (g.2.1.map nI))),some (.d (.bl g.2.2))],rfl,uJ ?_⟩
   rw[if_pos rfl]
   refine dP (d:=gp (g.1,g.2.1,true)) (cK (ds:=[.str (kS g.1), .tup (g.2.1.map nI), .bl true]) rfl (by simp;omega)) ⟨_,rfl,rfl,?_⟩
   rw[List.take_add_one,hg]
   unfold pS
   rw[List.map_append,List.map_append];rfl
  rintro ds4 S4 ⟨rfl,rfl⟩
  rw[List.length_map,List.length_map,List.take_length]
  refine⟨_,rfl,?_⟩
  simp only[List.set_cons_succ,List.set_cons_zero]
  refine gu <| DZ <| eD <| aG <| dP (d:=bz (fF 3 l) (pS (el 3 gs)) (oV 3 os)) (cK (ds:=[.lst ((fF 3 l).map MT.inD), .lst ((pS (el 3 gs)).map gp), .lst ((oV 3 os).map sI)]) (ay (ax (a:=n3) (b:= .int 0) rfl rfl (by rw[←hn3];rfl)) (ay rfl (ay (ax (a:=n3) (b:= .int 2) rfl rfl (by rw[←hn3];rfl)) rfl))) (by simp;omega)) <| aG <| dP (d:=nI 3) rfl <| aG <| dP (d:= .str (qz false)) rfl <| cJ <| mU (safe:=false) (c:=l.length) (A_ N3) (hlM 3) (by omega) (hoM 3 (by omega) (by omega)) (by unfold pS;rw [List.length_map];exact hgM 3 (by omega)) (by omega) hF ?_
  rw[jV fun s h1 _ T hT=>by rw[BG,Df s h1] at hT;cases hT]
  exact dP (d:=gc) (cK rfl (by simp;omega)) ⟨_,_,_,rfl,rfl,oY, .d (.bl true),rfl,hF,by unfold eO;rfl, .bl true,by unfold res;rfl,rfl,rfl⟩
 obtain⟨v,S1,e,rfl,rfl⟩:=key
 unfold xE Il
 simp only[List.map_cons,List.map_nil]
 rw[e]
 rfl
end K16
end
open PySem PySem.W PyProof.Rows
set_option maxRecDepth 100000 in
set_option maxHeartbeats 0 in
theorem PySem.Challenge.cw_bearfaults_k16_threes_and_pairs_holds : PySem.Challenge.rw_bearfaults_k16_threes_and_pairs.Holds := by
 w_on;o_law;k_head;(case hw=>w_witness2)
 k_fill
 refine L2.Hk (l:=PySem.Challenge.rw_bearfaults_k16_threes_and_pairs) (n:=63) (k:=9) (x:=Str.ofString "script") (g:=K16.xE) rfl (by decide) rfl ⟨rfl,by decide,by decide⟩ (fun w h Y=>PySem.W.kIn_of Y) ?F K16.Bv
 case F=>
  intro w mg fa h KX G hmg
  have D_vote_of:L2.Def (L2.gq KX) mg (Str.ofString "vote_of") K16.eS:=by
   dsimp only[L2.gq]
   refine' L2.cB KX G ?a ?l ?c ?k
   (case a=>k_is);(case l=>k_is);(case c=>k_is);(case k=>k_is)
  have D_gate_mask:L2.Def (L2.gq KX) mg (Str.ofString "gate_mask") K16.dD:=by
   dsimp only[L2.gq]
   refine' L2.cB KX G ?a ?l ?c ?k
   (case a=>k_is);(case l=>k_is);(case c=>k_is);(case k=>k_is)
  have D_in_wire_masks:L2.Def (L2.gq KX) mg (Str.ofString "in_wire_masks") K16.bV:=by
   dsimp only[L2.gq]
   refine' L2.cB KX G ?a ?l ?c ?k
   (case a=>k_is);(case l=>k_is);(case c=>k_is);(case k=>k_is)
  have D_masks_at:L2.Def (L2.gq KX) mg (Str.ofString "masks_at") K16.d8:=by
   dsimp only[L2.gq]
   refine' L2.cB KX G ?a ?l ?c ?k
   (case a=>k_is);(case l=>k_is);(case c=>k_is);(case k=>k_is)
  have D_wire_masks:L2.Def (L2.gq KX) mg (Str.ofString "wire_masks") K16.cS:=by
   dsimp only[L2.gq]
   refine' L2.cB KX G ?a ?l ?c ?k
   (case a=>k_is);(case l=>k_is);(case c=>k_is);(case k=>k_is)
  have D_out_masks:L2.Def (L2.gq KX) mg (Str.ofString "out_masks") K16.dC:=by
   dsimp only[L2.gq]
   refine' L2.cB KX G ?a ?l ?c ?k
   (case a=>k_is);(case l=>k_is);(case c=>k_is);(case k=>k_is)
  have D_reading:L2.Def (L2.gq KX) mg (Str.ofString "reading") K16.eV:=by
   dsimp only[L2.gq]
   refine' L2.cB KX G ?a ?l ?c ?k
   (case a=>k_is);(case l=>k_is);(case c=>k_is);(case k=>k_is)
  have D_bit_at:L2.Def (L2.gq KX) mg (Str.ofString "bit_at") K16.f6:=by
   dsimp only[L2.gq]
   refine' L2.cB KX G ?a ?l ?c ?k
   (case a=>k_is);(case l=>k_is);(case c=>k_is);(case k=>k_is)
  have D_all_inputs:L2.Def (L2.gq KX) mg (Str.ofString "all_inputs") K16.cX:=by
   dsimp only[L2.gq]
   refine' L2.cB KX G ?a ?l ?c ?k
   (case a=>k_is);(case l=>k_is);(case c=>k_is);(case k=>k_is)
  have D_mask_of:L2.Def (L2.gq KX) mg (Str.ofString "mask_of") K16.eZ:=by
   dsimp only[L2.gq]
   refine' L2.cB KX G ?a ?l ?c ?k
   (case a=>k_is);(case l=>k_is);(case c=>k_is);(case k=>k_is)
  have D_in_mask:L2.Def (L2.gq KX) mg (Str.ofString "in_mask") K16.e8:=by
   dsimp only[L2.gq]
   refine' L2.cB KX G ?a ?l ?c ?k
   (case a=>k_is);(case l=>k_is);(case c=>k_is);(case k=>k_is)
  have D_choices:L2.Def (L2.gq KX) mg (Str.ofString "choices") K16.eU:=by
   dsimp only[L2.gq]
   refine' L2.cB KX G ?a ?l ?c ?k
   (case a=>k_is);(case l=>k_is);(case c=>k_is);(case k=>k_is)
  have D_bears:L2.Def (L2.gq KX) mg (Str.ofString "bears") K16.g_:=by
   dsimp only[L2.gq]
   refine' L2.cB KX G ?a ?l ?c ?k
   (case a=>k_is);(case l=>k_is);(case c=>k_is);(case k=>k_is)
  have D_law_cell_at:L2.Def (L2.gq KX) mg (Str.ofString "_law_cell_at") K16.cD:=by
   dsimp only[L2.gq]
   refine' L2.cB KX G ?a ?l ?c ?k
   (case a=>k_is);(case l=>k_is);(case c=>k_is);(case k=>k_is)
  have D_law_reel:L2.Def (L2.gq KX) mg (Str.ofString "_law_reel") K16.eg:=by
   dsimp only[L2.gq]
   refine' L2.cB KX G ?a ?l ?c ?k
   (case a=>k_is);(case l=>k_is);(case c=>k_is);(case k=>k_is)
  have D_law_take:L2.Def (L2.gq KX) mg (Str.ofString "_law_take") K16.ef:=by
   dsimp only[L2.gq]
   refine' L2.cB KX G ?a ?l ?c ?k
   (case a=>k_is);(case l=>k_is);(case c=>k_is);(case k=>k_is)
  have D_law_names:L2.Def (L2.gq KX) mg (Str.ofString "_law_names") K16.dr:=by
   dsimp only[L2.gq]
   refine' L2.cB KX G ?a ?l ?c ?k
   (case a=>k_is);(case l=>k_is);(case c=>k_is);(case k=>k_is)
  have D_law_gate:L2.Def (L2.gq KX) mg (Str.ofString "_law_gate") K16.eh:=by
   dsimp only[L2.gq]
   refine' L2.cB KX G ?a ?l ?c ?k
   (case a=>k_is);(case l=>k_is);(case c=>k_is);(case k=>k_is)
  have D_law_gate_bit:L2.Def (L2.gq KX) mg (Str.ofString "_law_gate_bit") K16.cg:=by
   dsimp only[L2.gq]
   refine' L2.cB KX G ?a ?l ?c ?k
   (case a=>k_is);(case l=>k_is);(case c=>k_is);(case k=>k_is)
  have D_law_wires:L2.Def (L2.gq KX) mg (Str.ofString "_law_wires") K16.dt:=by
   dsimp only[L2.gq]
   refine' L2.cB KX G ?a ?l ?c ?k
   (case a=>k_is);(case l=>k_is);(case c=>k_is);(case k=>k_is)
  have D_law_read:L2.Def (L2.gq KX) mg (Str.ofString "_law_read") K16.ee:=by
   dsimp only[L2.gq]
   refine' L2.cB KX G ?a ?l ?c ?k
   (case a=>k_is);(case l=>k_is);(case c=>k_is);(case k=>k_is)
  have D_law_reads:L2.Def (L2.gq KX) mg (Str.ofString "_law_reads") K16.dG:=by
   dsimp only[L2.gq]
   refine' L2.cB KX G ?a ?l ?c ?k
   (case a=>k_is);(case l=>k_is);(case c=>k_is);(case k=>k_is)
  have D_law_inputs:L2.Def (L2.gq KX) mg (Str.ofString "_law_inputs") K16.cU:=by
   dsimp only[L2.gq]
   refine' L2.cB KX G ?a ?l ?c ?k
   (case a=>k_is);(case l=>k_is);(case c=>k_is);(case k=>k_is)
  have D_law_many_times:L2.Def (L2.gq KX) mg (Str.ofString "_law_many_times") K16.bK:=by
   dsimp only[L2.gq]
   refine' L2.cB KX G ?a ?l ?c ?k
   (case a=>k_is);(case l=>k_is);(case c=>k_is);(case k=>k_is)
  have D_law_plain:L2.Def (L2.gq KX) mg (Str.ofString "_law_plain") K16.dI:=by
   dsimp only[L2.gq]
   refine' L2.cB KX G ?a ?l ?c ?k
   (case a=>k_is);(case l=>k_is);(case c=>k_is);(case k=>k_is)
  have D_law_spoils:L2.Def (L2.gq KX) mg (Str.ofString "_law_spoils") K16.cW:=by
   dsimp only[L2.gq]
   refine' L2.cB KX G ?a ?l ?c ?k
   (case a=>k_is);(case l=>k_is);(case c=>k_is);(case k=>k_is)
  have D_law:L2.Def (L2.gq KX) mg (Str.ofString "law") K16.oj:=by
   dsimp only[L2.gq]
   refine' L2.cB KX G ?a ?l ?c ?k
   (case a=>k_is);(case l=>k_is);(case c=>k_is);(case k=>k_is)
  obtain⟨cl,CF⟩:∃cl,K16.Cf (L2.gq KX) mg cl:=by
   dsimp only[L2.gq]
   refine' K16.HB KX G ?aC0 ?pg0 ?hd0 ?po0 ?sa0 ?mk0 ?kc0 ?n0_net ?n0_many_inputs ?n0_full ?n0_in_masks ?aC1 ?pg1 ?hd1 ?po1 ?sa1 ?mk1 ?kc1 ?n1_bench ?n1_plain ?n1_unsure ?a_Bench___init__ ?i_Bench___init__ ?l_Bench___init__ ?d4 ?k_Bench___init__ ?a_Bench_tells ?i_Bench_tells ?l_Bench_tells ?fE ?k_Bench_tells ?a_Bench_readings ?i_Bench_readings ?l_Bench_readings ?dW ?k_Bench_readings ?a_Trial___init__ ?i_Trial___init__ ?l_Trial___init__ ?d3 ?k_Trial___init__ ?a_Trial_breaks_at ?i_Trial_breaks_at ?l_Trial_breaks_at ?dE ?k_Trial_breaks_at ?a_Bench_inputs_in ?i_Bench_inputs_in ?l_Bench_inputs_in ?dv ?k_Bench_inputs_in
   (case aC0=>k_is)
   (case pg0=>k_is)
   (case hd0=>k_is)
   (case po0=>k_is)
   (case sa0=>k_is)
   (case mk0=>k_is)
   (case kc0=>k_is)
   (case n0_net=>k_is)
   (case n0_many_inputs=>k_is)
   (case n0_full=>k_is)
   (case n0_in_masks=>k_is)
   (case aC1=>k_is)
   (case pg1=>k_is)
   (case hd1=>k_is)
   (case po1=>k_is)
   (case sa1=>k_is)
   (case mk1=>k_is)
   (case kc1=>k_is)
   (case n1_bench=>k_is)
   (case n1_plain=>k_is)
   (case n1_unsure=>k_is)
   (case a_Bench___init__=>k_is)
   (case i_Bench___init__=>k_is)
   (case l_Bench___init__=>k_is)
   (case d4=>k_is)
   (case k_Bench___init__=>k_is)
   (case a_Bench_tells=>k_is)
   (case i_Bench_tells=>k_is)
   (case l_Bench_tells=>k_is)
   (case fE=>k_is)
   (case k_Bench_tells=>k_is)
   (case a_Bench_readings=>k_is)
   (case i_Bench_readings=>k_is)
   (case l_Bench_readings=>k_is)
   (case dW=>k_is)
   (case k_Bench_readings=>k_is)
   (case a_Trial___init__=>k_is)
   (case i_Trial___init__=>k_is)
   (case l_Trial___init__=>k_is)
   (case d3=>k_is)
   (case k_Trial___init__=>k_is)
   (case a_Trial_breaks_at=>k_is)
   (case i_Trial_breaks_at=>k_is)
   (case l_Trial_breaks_at=>k_is)
   (case dE=>k_is)
   (case k_Trial_breaks_at=>k_is)
   (case a_Bench_inputs_in=>k_is)
   (case i_Bench_inputs_in=>k_is)
   (case l_Bench_inputs_in=>k_is)
   (case dv=>k_is)
   (case k_Bench_inputs_in=>k_is)
  have D_Bench___init__:=CF.D_Bench___init__
  have D_Bench_tells:=CF.D_Bench_tells
  have D_Bench_readings:=CF.D_Bench_readings
  have D_Trial___init__:=CF.D_Trial___init__
  have D_Trial_breaks_at:=CF.D_Trial_breaks_at
  have D_Bench_inputs_in:=CF.D_Bench_inputs_in
  have T:K16.Tp (L2.gq KX) mg cl:=by
   dsimp only[L2.gq]
   refine' ⟨PySem.W.mg_none_of KX G ?z_enumerate,PySem.W.mg_none_of KX G ?z_range,PySem.W.mg_none_of KX G ?z_len,PySem.W.mg_none_of KX G ?z_tuple,PySem.W.mg_none_of KX G ?z_reversed,PySem.W.mg_none_of KX G ?z_zip,PySem.W.mg_none_of KX G ?z_abs,PySem.W.mg_none_of KX G ?z_min,PySem.W.mg_none_of KX G ?z_max,PySem.W.mg_none_of KX G ?z_sum,PySem.W.mg_none_of KX G ?z_int,PySem.W.mg_none_of KX G ?z_list,CF.C_Bench,CF.N_Bench_net,CF.N_Bench_many_inputs,CF.N_Bench_full,CF.N_Bench_in_masks,CF.M_Bench,CF.C_Trial,CF.N_Trial_bench,CF.N_Trial_plain,CF.N_Trial_unsure,CF.M_Trial⟩
   (case z_enumerate=>k_is);(case z_range=>k_is);(case z_len=>k_is);(case z_tuple=>k_is);(case z_reversed=>k_is);(case z_zip=>k_is);(case z_abs=>k_is);(case z_min=>k_is);(case z_max=>k_is);(case z_sum=>k_is);(case z_int=>k_is);(case z_list=>k_is)
  obtain⟨fl,fd,Fl,hl⟩:=D_law
  have e0:=hmg.symm.trans hl
  cases e0
  refine' ⟨fd,?b,fun base kb nb=>K16.FW T D_vote_of D_gate_mask D_in_wire_masks D_masks_at D_wire_masks D_out_masks D_reading D_bit_at D_all_inputs D_mask_of D_in_mask D_choices D_Bench___init__ D_Bench_tells D_Bench_readings D_Trial___init__ D_Trial_breaks_at D_Bench_inputs_in D_bears D_law_cell_at D_law_reel D_law_take D_law_names D_law_gate D_law_gate_bit D_law_wires D_law_read D_law_reads D_law_inputs D_law_many_times D_law_plain D_law_spoils Fl⟩
  obtain⟨_,_,_,_,_,_,_,_,_,e,_,_⟩:=Fl.ex
  subst e
  exact fun s u=> .of_eq rfl
