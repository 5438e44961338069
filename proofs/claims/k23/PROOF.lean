import PyProof.Rows.All
import Wide.All
import OpenK.AllK
import Wide.FinOn
import Lean
import PyProof.EqAt
import PyProof.EqKinds
import PyProof.TupleCall
import PyProof.Rows.StrJoin2
import PyProof.TupleOfGen
import PyProof.ListRange
import PyProof.Draws
import PyProof.Rows.StrClose3
import KE.KSortedM
import PyProof.Rows.SortWalk
import PyProof.WalkInts
import PyProof.Rows.Range3
import PyProof.ZipIter
import PyProof.ConsumeWalk
import PyProof.Rows.SeqMore
import KE.KRevIter
import KE.KRevSl
import KE.KUnpack
import KE.KDictSum
import KE.KTupSum
import PySem.Challenge.RW_bearfaults_k23_surest_of_turning_gates
noncomputable section
set_option bootstrap.genMatcherCode false
def PySem.W.Fast.tw8413138198463612780:=0
def PySem.W.Fast.tw9087433192125087024:=0
def PySem.W.Fast.tw12703925101692623613:=0
def PySem.W.Fast.tw2545035492503182353:=0
def PySem.W.Fast.tw17042106593448416687:=0
def PySem.W.Fast.tw1884952551386546606:=0
def PySem.W.Fast.tw17926130749829744649:=0
def PySem.W.Fast.tw11265043792064641466:=0
def PySem.W.Fast.tw9378961760131150765:=0
def PySem.W.Fast.tw13668414554525422183:=0
def PySem.W.Fast.tw10381500278061747862:=0
def PySem.W.Fast.tw14508960683374637837:=0
def PySem.W.Fast.tw4757319865841398881:=0
def PySem.W.Fast.tw2119503719531784928:=0
def PySem.W.Fast.tw7092954822883302517:=0
def PySem.W.Fast.tw13949006563937644755:=0
def PySem.W.Fast.tw16638609271194443100:=0
def PySem.W.Fast.tw2457412491144202653:=0
def PySem.W.Fast.tw6224537588112020451:=0
def PySem.W.Fast.tw1661090130777575628:=0
def PySem.W.Fast.tw8866023267837500923:=0
def PySem.W.Fast.tw17923192524851890310:=0
def PySem.W.Fast.tw13999717542593183387:=0
def PySem.W.Fast.tw17949766407893827708:=0
def PySem.W.Fast.tw14476666588098587632:=0
def PySem.W.Fast.tw11897491713168855018:=0
def PySem.W.Fast.tw7042698930426132122:=0
def PySem.W.Fast.tw5357473170144578601:=0
def PySem.W.Fast.tw8483403552038441281:=0
def PySem.W.Fast.tw10861493195801740599:=0
def PySem.W.Fast.tw8718823243323204332:=0
def PySem.W.Fast.tw4280432296771702344:=0
def PySem.W.Fast.tw15801579638546484990:=0
def PySem.W.Fast.tw16881769558045878220:=0
def PySem.W.Fast.tw15791253589928223927:=0
def PySem.W.Fast.tw5554325942707664989:=0
def PySem.W.Fast.tw4263465126101052033:=0
def PySem.W.Fast.tw4271276277903721197:=0
def PySem.W.Fast.tw10687282072506228647:=0
def PySem.W.Fast.tw5964867459354007761:=0
set_option Elab.async false
set_option linter.all false
set_option maxRecDepth 100000
set_option maxHeartbeats 4000000
section
set_option maxRecDepth 100000
namespace L2
open PySem PySem.Spec PyProof.Rows
noncomputable abbrev Key:=Sum Int Str
noncomputable def pR:Key→Value→Bool
 | .inl k,v=>Value.isInt k v
 | .inr x,v=>Value.isStrOf x v
noncomputable def IP(w:World):Key→Int
 | .inl k=>hashInt k
 | .inr x=>hashStr w x
theorem cA:∀{k:Key} {v:Value},pR k v=true→(∃i t,k=Sum.inl i∧v=Value.int i t)∨(∃x t,k=Sum.inr x∧v=Value.str x t)
 | .inl i,v,h=>by
   obtain⟨t,e⟩:=Value.isInt_shape (k:=i) (v:=v) h
   exact .inl ⟨i,t,rfl,e⟩
 | .inr x,v,h=>by
   obtain⟨t,e⟩:=Value.isStrOf_shape (x:=x) (v:=v) h
   exact .inr ⟨x,t,rfl,e⟩
theorem ym(i:Int)(t:Tok):pR (.inl i) (.int i t)=true:=by simp [pR,Value.isInt]
theorem yW(x:Str)(t:Tok):pR (.inr x) (.str x t)=true:=by simp [pR,Value.isStrOf]
theorem Fd(a b:Int):decide ((Sum.inl a:Key)=Sum.inl b)=(a==b):=by
 by_cases e:a=b
 ·subst e;simp
 ·have h:¬(Sum.inl a:Key)=Sum.inl b:=fun q=>e (Sum.inl.inj q)
  rw[decide_eq_false h]
  exact(beq_eq_false_iff_ne.mpr e).symm
theorem ER(a b:Str):decide ((Sum.inr a:Key)=Sum.inr b)=decide (a=b):=by
 by_cases e:a=b
 ·subst e;simp
 ·have h:¬(Sum.inr a:Key)=Sum.inr b:=fun q=>e (Sum.inr.inj q)
  rw[decide_eq_false h,decide_eq_false e]
theorem Gm(a:Int)(b:Str):decide ((Sum.inl a:Key)=Sum.inr b)=false:=decide_eq_false (fun q=>nomatch q)
theorem Fb(a:Str)(b:Int):decide ((Sum.inr a:Key)=Sum.inl b)=false:=decide_eq_false (fun q=>nomatch q)
noncomputable def dc(prog:Program)(w:World):PySem.KeyKind prog w Key where
 is:=pR
 hash:=IP w
 inj:=fun v a b ha hb=>by
  rcases cA ha with⟨i,t,rfl,rfl⟩ | ⟨x,t,rfl,rfl⟩
  ·rcases cA hb with⟨j,u,rfl,e⟩ | ⟨y,u,rfl,e⟩
   ·injection e with e1 _;rw [e1]
   ·exact nomatch e
  ·rcases cA hb with⟨j,u,rfl,e⟩ | ⟨y,u,rfl,e⟩
   ·exact nomatch e
   ·injection e with e1 _;rw [e1]
 byValue:=fun k v h=>by
  rcases cA h with⟨i,t,rfl,rfl⟩ | ⟨x,t,rfl,rfl⟩ <;> rfl
 pyHash:=fun hv h=>by
  rcases cA hv with⟨i,t,rfl,rfl⟩ | ⟨x,t,rfl,rfl⟩
  ·exact wpAny_pyHash_int h
  ·exact wpAny_pyHash_str h
 eqBool:=fun hu hv h=>by
  rcases cA hu with⟨i,t,rfl,rfl⟩ | ⟨x,t,rfl,rfl⟩
  ·rcases cA hv with⟨j,u,rfl,rfl⟩ | ⟨y,u,rfl,rfl⟩
   ·rw[Fd] at h;exact wpAny_eqBool_int h
   ·rw[Gm] at h;exact SeqAt.EqAt.int_str i t y u _ _ _ _ h
  ·rcases cA hv with⟨j,u,rfl,rfl⟩ | ⟨y,u,rfl,rfl⟩
   ·rw[Fb] at h;exact SeqAt.EqAt.str_int x t j u _ _ _ _ h
   ·rw[ER] at h;exact wpAny_eqBool_str h
 «strs»:=fun k x t v h=>by
  rcases cA h with⟨i,u,rfl,e⟩ | ⟨y,u,rfl,e⟩
  ·exact nomatch e
  ·injection e with e1 _
   subst e1
   cases v <;> rfl
theorem uN(prog:Program)(w:World)(i:Int)(t:Tok):(dc prog w).is (.inl i) (.int i t)=true:=ym i t
theorem uk(prog:Program)(w:World)(x:Str)(t:Tok):(dc prog w).is (.inr x) (.str x t)=true:=yW x t
end L2
namespace L2
open PySem PySem.Spec PyProof.Rows
inductive V where
 | bX | bl (b:Bool) | int (i:Int) | str (x:Str) | byt (b:Array UInt8) | flt (b:UInt64) | ref (a:Addr) | ty (n:String)
 deriving DecidableEq
noncomputable def RelV:V→Value→Prop
 | .bX,u=>u=Value.none
 | .bl b,u=>u=Value.bool b
 | .int i,u=>∃t,u=Value.int i t
 | .str x,u=>∃t,u=Value.str x t
 | .byt b,u=>∃t,u=Value.bytes b t
 | .flt b,u=>∃t,u=Value.float b t
 | .ref a,u=>u=Value.ref a
 | .ty n,u=>u=Value.type n
noncomputable abbrev Vals:List V→List Value→Prop:=Paired RelV
theorem Vals.length{xs:List V}{us:List Value}(r:Vals xs us):xs.length=us.length:=Paired.length r
theorem Vals.get:∀{xs:List V} {us:List Value} {i:Nat} {x:V},Vals xs us→xs[i]? =some x→∃u,us[i]? =some u∧RelV x u
 | _,_,_,_, .nil,e=>by simp at e
 | _,_,0,_, .cons r _,e=>by simp at e;subst e;exact⟨_,rfl,r⟩
 | _,_,i+1,x, .cons _ t,e=>by
   obtain⟨u,h1,h2⟩:=Vals.get (i:=i) (x:=x) t (by simpa using e)
   exact⟨u,by simpa using h1,h2⟩
theorem Vals.set{x:V}{u:Value}(r:RelV x u):∀{xs:List V} {us:List Value} (i:Nat),Vals xs us→Vals (xs.set i x) (us.set i u)
 | _,_,_, .nil=> .nil
 | _,_,0, .cons _ t=> .cons r t
 | _,_,i+1, .cons q t=> .cons q (Vals.set r i t)
theorem Vals.append:∀{xs ys:List V} {us ws:List Value},Vals xs us→Vals ys ws→Vals (xs++ys) (us++ws)
 | _,_,_,_, .nil,s=>s
 | _,_,_,_, .cons r t,s=> .cons r (Vals.append t s)
theorem Vals.take:∀{xs:List V} {us:List Value} (n:Nat),Vals xs us→Vals (xs.take n) (us.take n)
 | _,_,0,_=> .nil
 | _,_,_+1, .nil=> .nil
 | _,_,n+1, .cons r t=> .cons r (Vals.take n t)
theorem Vals.drop:∀{xs:List V} {us:List Value} (n:Nat),Vals xs us→Vals (xs.drop n) (us.drop n)
 | _,_,0,r=>r
 | _,_,_+1, .nil=> .nil
 | _,_,n+1, .cons _ t=>Vals.drop n t
noncomputable def l4:Option V→Option Value→Prop
 | some v,some u=>RelV v u
 | none,none=>True
 | _,_=>False
noncomputable def KV{κ:Type}:List (κ × V)→List (κ × Value)→Prop:=Paired fun(p:κ × V) (q:κ × Value)=>p.1=q.1∧RelV p.2 q.2
noncomputable def kV:Key→V
 | .inl i=> .int i
 | .inr x=> .str x
inductive HO where
 | lst (xs:List V)
 | tup (xs:List V)
 | dK (kvs:List (Key × V)) | dT (kvs:List (List Key × V))
 | set (S:Int→Bool) (n:Nat)
 | ins (C dx:Addr) (fs:List (Str × V))
 | own (x:Addr)
 | xd (fs:List (Str × V))
 | met (f x:Addr)
 | rng (lo hi:Int)
 | gq (o:Obj) (u:HO)
 | tbl (ps:Array Value)
 | ext (φ:Heap→Prop)
noncomputable abbrev Hp:=Addr→Option HO
noncomputable def upd(H:Hp)(a:Addr)(o:HO):Hp:=fun b=>if b=a then some o else H b
theorem aN{H:Hp}{a:Addr}{o:HO}:upd H a o a=some o:=by unfold upd;rw [if_pos rfl]
theorem aT{H:Hp}{a b:Addr}{o:HO}(h:b≠a):upd H a o b=H b:=by unfold upd;rw [if_neg h]
theorem HU{H:Hp}{a b:Addr}{o u:HO}(h:H a=some o)(h':H b=some u)(d:o≠u):a≠b:=by
 intro e;subst e;rw [h] at h';exact d (Option.some.inj h')
theorem bY{H:Hp}{a b:Addr}{o:HO}(h:H a=some o)(h':H b=none):a≠b:=by
 intro e;subst e;rw [h] at h';cases h'
section
variable (P:Program) (w:World)
noncomputable def c9(H:Hp)(h:Heap)(a:Addr):HO→Prop
 | .lst xs=>xs.length≤sizeLine∧∃(its:List Value) (n:Nat),Vals xs its∧h.get? a=some {cls:= .type "list",data:= .seq its.toArray n}
 | .tup xs=>xs.length≤sizeLine∧∃its:List Value,Vals xs its∧IsTup h a its.toArray
 | .dK kvs=>kvs.length≤sizeLine∧(a==sysModules)=false∧∃vs,KV kvs vs∧h.DictOf (dc P w) a vs
 | .dT kvs=>kvs.length≤sizeLine∧(a==sysModules)=false∧∃xs:List (List Key × Addr × Value),
    Paired (fun(p:List Key × V) (q:List Key × Addr × Value)=>p.1=q.1∧H q.2.1=some (.tup (p.1.map kV))∧RelV p.2 q.2.2) kvs xs∧
    ∃o es ep,h.get? a=some o∧o.ExactDict∧o.data= .dict es ep∧es.toList=xs.map (entryOfKey (tupleKind (dc P w)))∧(xs.map (·.1)).Nodup
 | .set S n=>h.SetOf (intKind P w) a S n
 | .ins C dx fs=>H dx=some (.own a)∧fs.length≤1000∧dx≠a∧h.get? a=some (PySem.W.instObj C dx)∧
    ∃mA,h.Ns1 dx mA∧(∀f,l4 (fs.lookup f) (mA f))∧PySem.Within mA (fs.map (·.1))
 | .own _=>∃o,h.get? a=some o
 | .xd fs=>∃mA,h.Ns1 a mA∧∀f,l4 (fs.lookup f) (mA f)
 | .rng lo hi=>∃t u v,h.get? a=some {cls:= .type "range",data:= .fields #[.int lo t, .int hi u, .int 1 v]}
 | .gq o u=>h.get? a=some o∧c9 H h a u
 | .tbl ps=>h.get? a=some {cls:= .none,data:= .fields ps}
 | .met f x=>h.get? a=some (PySem.W.methodObj (.ref f) (.ref x))
 | .ext φ=>φ h∧(∃o,h.get? a=some o)∧∀h1 h2:Heap,φ h1→(∀o,h1.get? a=some o→h2.get? a=some o)→φ h2
noncomputable def kL(H:Hp)(h:Heap):Prop:=∀a o,H a=some o→c9 P w H h a o
end
section
variable {P:Program} {w:World} {H H':Hp} {h h':Heap} {a:Addr} {o:HO}
theorem c9.lt(x:c9 P w H h a o):a < h.objs.size:=by
 cases o with
 | lst xs=>obtain⟨_,_,_,_,e⟩:=x;exact Heap.lt_size e
 | tup xs=>obtain⟨_,_,_,p⟩:=x;exact p.lt
 | dK kvs=>obtain⟨_,_,_,_,o,_,_,e,_⟩:=x;exact Heap.lt_size e
 | dT kvs=>obtain⟨_,_,_,_,o,_,_,e,_⟩:=x;exact Heap.lt_size e
 | set S n=>obtain⟨o,_,_,_,e,_⟩:=x;exact Heap.lt_size e
 | ins C dx fs=>obtain⟨_,_,_,e,_⟩:=x;exact Heap.lt_size e
 | own y=>obtain⟨_,e⟩:=x;exact Heap.lt_size e
 | xd fs=>obtain⟨_,⟨_,_,_,e,_⟩,_⟩:=x;exact Heap.lt_size e
 | rng lo hi=>obtain⟨_,_,_,e⟩:=x;exact Heap.lt_size e
 | gq ob u=>obtain⟨e,_⟩:=x;exact Heap.lt_size e
 | tbl ps=>exact Heap.lt_size (show h.get? a=some _ from x)
 | met f y=>exact Heap.lt_size (show h.get? a=some _ from x)
 | ext φ=>obtain⟨_,⟨_,e⟩,_⟩:=x;exact Heap.lt_size e
theorem Paired.FE{α β:Type}{F G:α→β→Prop}:∀{l₁:List α} {l₂:List β},Paired F l₁ l₂→(∀a b,F a b→G a b)→Paired G l₁ l₂
 | _,_, .nil,_=> .nil
 | _,_, .cons r t,f=> .cons (f _ _ r) (Paired.FE t f)
theorem c9.tu(x:c9 P w H h a o)(k:∀b u,(b=a∨H b=some (.own a))→h.get? b=some u→h'.get? b=some u)
 (ho:∀b,H b=some (.own a)→H' b=some (.own a)) (ht:∀b xs,H b=some (.tup xs)→H' b=some (.tup xs)):c9 P w H' h' a o:=by
 induction o with
 | lst xs=>obtain⟨z,its,n,r,e⟩:=x;exact⟨z,its,n,r,k _ _ (.inl rfl) e⟩
 | tup xs=>obtain⟨z,its,r,ob,e,c⟩:=x;exact⟨z,its,r,ob,k _ _ (.inl rfl) e,c⟩
 | dK kvs=>obtain⟨z,y,vs,r,ob,es,ep,e,c⟩:=x;exact⟨z,y,vs,r,ob,es,ep,k _ _ (.inl rfl) e,c⟩
 | dT kvs=>
   obtain⟨z,y,xs,r,ob,es,ep,e,c⟩:=x
   exact⟨z,y,xs,Paired.FE r fun p q z=>⟨z.1,ht _ _ z.2.1,z.2.2⟩,ob,es,ep,k _ _ (.inl rfl) e,c⟩
 | set S n=>obtain⟨ob,es,ep,t,e,c⟩:=x;exact⟨ob,es,ep,t,k _ _ (.inl rfl) e,c⟩
 | ins C dx fs=>
   obtain⟨d,z,ne,e,mA,⟨od,es,ep,e2,c⟩,r⟩:=x
   exact⟨ho _ d,z,ne,k _ _ (.inl rfl) e,mA,⟨od,es,ep,k _ _ (.inr d) e2,c⟩,r⟩
 | own y=>obtain⟨ob,e⟩:=x;exact⟨ob,k _ _ (.inl rfl) e⟩
 | xd fs=>obtain⟨mA,⟨od,es,ep,e,c⟩,r⟩:=x;exact⟨mA,⟨od,es,ep,k _ _ (.inl rfl) e,c⟩,r⟩
 | rng lo hi=>obtain⟨t,u,v,e⟩:=x;exact⟨t,u,v,k _ _ (.inl rfl) e⟩
 | gq ob u ih=>obtain⟨e,q⟩:=x;exact⟨k _ _ (.inl rfl) e,ih q⟩
 | tbl ps=>
   have e:h.get? a=some {cls:= .none,data:= .fields ps}:=x
   show h'.get? a=some {cls:= .none,data:= .fields ps}
   exact k a _ (.inl rfl) e
 | met f y=>
   have e:h.get? a=some (PySem.W.methodObj (.ref f) (.ref y)):=x
   show h'.get? a=some (PySem.W.methodObj (.ref f) (.ref y))
   exact k a _ (.inl rfl) e
 | ext φ=>obtain⟨p,⟨o,e⟩,st⟩:=x;exact⟨st _ _ p fun o q=>k _ _ (.inl rfl) q,⟨o,k _ _ (.inl rfl) e⟩,st⟩
theorem kL.lt(x:kL P w H h)(e:H a=some o):a < h.objs.size:=(x a o e).lt
theorem kL.fresh(x:kL P w H h)(e:h.objs.size≤a):H a=none:=by
 cases q:H a with
 | none=>rfl
 | some u=>exact absurd (Nat.lt_of_lt_of_le (x.lt q) e) (Nat.lt_irrefl _)
theorem kL.kept(x:kL P w H h)(k:∀b u,h.get? b=some u→h'.get? b=some u):kL P w H h':=fun a o e=>
 (x a o e).tu (fun b u _ q=>k b u q) (fun _ q=>q) fun _ _ q=>q
theorem kL.laid(x:kL P w H h)(k:∀b u,h.get? b=some u→h'.get? b=some u)(hp:h.objs.size≤a)(new:c9 P w (upd H a o) h' a o):kL P w (upd H a o) h':=fun b u e=>by
 have hn:=x.fresh hp
 by_cases hb:b=a
 ·subst hb;rw [aN] at e;cases e;exact new
 ·rw[aT hb] at e
  exact(x b u e).tu (fun c v _ q=>k c v q) (fun c q=>by rw[aT (bY q hn)];exact q) fun c xs q=>by rw[aT (bY q hn)];exact q
end
noncomputable def Rd(H:Hp)(a:Addr)(u:HO):Prop:=H a=some u∨∃o,H a=some (.gq o u)
theorem Rd.ok{P:Program}{w:World}{H:Hp}{h:Heap}{a:Addr}{u:HO}(r:Rd H a u)(x:kL P w H h):c9 P w H h a u:=by
 rcases r with r | ⟨o,r⟩
 ·exact x a u r
 ·obtain⟨_,q⟩:=x a _ r
  exact q
noncomputable def HA:Option HO→Prop
 | some (.lst _)=>True
 | some (.dK _)=>True
 | some (.dT _)=>True
 | some (.set _ _)=>True
 | some (.ins _ _ _)=>True
 | some (.ext _)=>True
 | _=>False
section
variable {P:Program} {w:World} {H:Hp} {h h':Heap} {x e:Addr} {o':HO}
theorem kL.write(ok:kL P w H h)(mu:HA (H x))(he:e=x∨H e=some (.own x))(k:∀b u,b≠e→h.get? b=some u→h'.get? b=some u)(heo:∃u,h'.get? e=some u)
 (new:c9 P w (upd H x o') h' x o'):kL P w (upd H x o') h':=fun b u q=>by
 have nown:∀c y,H c=some (.own y)→c≠x:=fun c y r z=>by subst z;rw [r] at mu;exact mu
 have ntup:∀c xs,H c=some (.tup xs)→c≠x:=fun c xs r z=>by subst z;rw [r] at mu;exact mu
 by_cases hb:b=x
 ·subst hb;rw [aN] at q;cases q;exact new
 ·rw[aT hb] at q
  by_cases hbe:b=e
  ·have q':H b=some (.own x):=by
    rcases he with z | z
    ·exact absurd (hbe.trans z) hb
    ·rw[hbe];exact z
   rw[q] at q';cases q'
   obtain⟨v,hv⟩:=heo
   exact⟨v,by rw[hbe];exact hv⟩
  ·refine(ok b u q).tu (fun c v hc r=>k c v ?_ r) (fun c r=>by rw[aT (nown c b r)];exact r) fun c xs r=>by rw[aT (ntup c xs r)];exact r
   rcases hc with rfl | hc
   ·exact hbe
   ·rintro rfl
    rcases he with z | z
    ·exact nown c b hc z
    ·rw[hc] at z;cases z;exact hb rfl
end
structure Un (fs ex:List Addr) (H H':Hp) (h h':Heap):Prop where
 keep:∀b o,h.get? b=some o→H b=none→b ∉ fs→b ∉ ex→h'.get? b=some o
 slot:∀b o,h.get? b=some o→H b=none→b∈fs→b ∉ ex→∃sl,h'.get? b=some {o with slots:=sl}
 free:∀b o,h.get? b=some o→H b=none→b ∉ ex→H' b=none
 there:∀b o,h.get? b=some o→b ∉ ex→∃o',h'.get? b=some o'
 tups:∀b xs,H b=some (.tup xs)→H' b=some (.tup xs)
 frzs:∀b o u,H b=some (.gq o u)→H' b=some (.gq o u)
 tbls:∀b ps,H b=some (.tbl ps)→∃more,H' b=some (.tbl (ps++more))
section
variable {fs fs' ex ex':List Addr} {H H1 H2:Hp} {h h1 h2 h':Heap} {a x e:Addr} {o:HO}
theorem Un.any(u:Un fs ex H H1 h h1){b:Addr}{ob:Obj}(q:h.get? b=some ob)(n:H b=none)(hx:b ∉ ex):∃sl,h1.get? b=some {ob with slots:=sl}:=by
 by_cases hb:b∈fs
 ·exact u.slot b ob q n hb hx
 ·exact⟨ob.slots,u.keep b ob q n hb hx⟩
theorem Un.kept(k:∀b u,h.get? b=some u→h'.get? b=some u):Un fs ex H H h h':=
 ⟨fun b ob q _ _ _=>k b ob q,fun b ob q _ _ _=>⟨ob.slots,k b ob q⟩,fun _ _ _ n _=>n,fun b ob q _=>⟨ob,k b ob q⟩,fun _ _ q=>q,fun _ _ _ q=>q,fun _ ps q=>⟨#[],by rw[q];simp⟩⟩
theorem Un.refl:Un fs ex H H h h:=Un.kept fun _ _ q=>q
theorem Un.laid(k:∀b u,h.get? b=some u→h'.get? b=some u)(hp:h.objs.size≤a)(hn:H a=none):Un fs ex H (upd H a o) h h' where
 keep:=fun b u q _ _ _=>k b u q
 slot:=fun b u q _ _ _=>⟨u.slots,k b u q⟩
 free:=fun b u q n _=>by rw[aT (Nat.ne_of_lt (Nat.lt_of_lt_of_le (Heap.lt_size q) hp))];exact n
 there:=fun b u q _=>⟨u,k b u q⟩
 tups:=fun b xs q=>by rw[aT (bY q hn)];exact q
 frzs:=fun b u xs q=>by rw[aT (bY q hn)];exact q
 tbls:=fun b ps q=>⟨#[],by rw[aT (bY q hn),q];simp⟩
theorem Un.write(mu:HA (H x))(he:e=x∨H e=some (.own x))(k:∀b u,b≠e→h.get? b=some u→h'.get? b=some u)(heo:∃u,h'.get? e=some u):Un fs ex H (upd H x o) h h':=by
 have hx:∀b,H b=none→b≠x:=fun b n z=>by subst z;rw [n] at mu;exact mu
 have hb:∀b,H b=none→b≠e:=fun b n z=>by
  subst z
  rcases he with r | r
  ·exact hx b n r
  ·rw[n] at r;cases r
 have hm:∀b u,H b=some u→¬HA (some u)→b≠x:=fun b u q nm z=>by subst z;rw [q] at mu;exact nm mu
 refine⟨fun b u q n _ _=>k b u (hb b n) q,fun b u q n _ _=>⟨u.slots,k b u (hb b n) q⟩,fun b u q n _=>by rw[aT (hx b n)];exact n,fun b u q _=>?_,
  fun b xs q=>by rw[aT (hm b _ q fun z=>z)];exact q,fun b u xs q=>by rw[aT (hm b _ q fun z=>z)];exact q,fun b ps q=>⟨#[],by rw[aT (hm b _ q fun z=>z),q];simp⟩⟩
 by_cases hbe:b=e
 ·subst hbe;exact heo
 ·exact⟨u,k b u hbe q⟩
end
noncomputable def Iu(h:Heap)(H:Hp):List Addr:=(List.range h.objs.size).filter fun a=>(H a).isSome
noncomputable def sP(h:Heap)(H:Hp):Heap:=PySem.W.hideAll h (Iu h H)
theorem yN(h:Heap)(H:Hp):(sP h H).objs.size=h.objs.size:=PySem.W.hideAll_size _ _
theorem AS{h:Heap}{H:Hp}{b:Addr}{o:Obj}(e:h.get? b=some o)(n:H b=none):(sP h H).get? b=some o:=
 PySem.W.hideAll_get _ e fun hm=>by
  have q:(H b).isSome=true:=(List.mem_filter.mp hm).2
  rw[n] at q;simp at q
theorem DR{h:Heap}{H:Hp}{b:Addr}{o:Obj}(e:(sP h H).get? b=some o):h.get? b=some o∧H b=none:=by
 have e':h.get? b=some o:=PySem.W.of_hideAll (Iu h H) e
 refine⟨e',?_⟩
 cases q:H b with
 | none=>rfl
 | some x=>
   have hm:b∈Iu h H:=List.mem_filter.mpr ⟨List.mem_range.mpr (Heap.lt_size e'),by simp [q]⟩
   have z:(sP h H).get? b=none:=PySem.W.hideAll_none (Iu h H) hm
   rw[z] at e;cases e
noncomputable def CN(g h:Heap)(L:Addr):List (Addr × Obj):=(List.range h.objs.size).filterMap fun a=>if a=L∨(g.get? a).isSome=true then none else(h.get? a).map fun o=>(a,o)
noncomputable def rest(g h:Heap)(L d:Addr):List (Addr × Obj):=(CN g h L).filter fun p=>decide (p.1≠d)
end L2
namespace L2
open PySem PySem.Spec PyProof.Rows
structure Mod (K:PySem.W.Frag) (mg:Str→Option Value) (base:Heap):Prop where
 kin:K.In base
 glob:base.Ns mainGlobals mg
 blt:∃mb,base.Ns builtinsNs mb∧∀x:Str,x≠"__name__"→mb x=bootBuiltins x
 nolimit:base.NoLimit
structure Cx where
 prog:Program
 w:World
 K:PySem.W.Frag
 mg:Str→Option Value
 base:Heap
 A:Around
 N:List Str
 s₀:Shared
 H₀:Hp
 env:Env
 outer:List Env
 stack:List Env
 ex:List Addr
 fn:Str→Bool
 calm:Bool
 pn:List (Addr × Obj)
 xe:Value→Shared→Prop
noncomputable def zm(l:List Env):List Addr:=l.filterMap (·.frame)
noncomputable abbrev Cx.fs(X:Cx):List Addr:=zm X.outer
noncomputable def DV(sc:Scope)(x:Str):Prop:=sc.names.lookup x=some .local∨sc.names.lookup x=some .cell∨sc.names.lookup x=some .free
noncomputable def Loc(sc:Scope)(x:Str):Prop:=sc.names.lookup x=some .local∨sc.names.lookup x=some .cell
noncomputable def Look(env:Env)(h:Heap)(m:Str→Option Value)(x:Str)(u:Value):Prop:=
 (env.kindOf x=some .local∧m x=some u)∨((env.kindOf x=some .cell∨env.kindOf x=some .free)∧∃c,env.cells.lookup x=some c∧h.IsCell c (some u))
structure Cx.Ok (X:Cx):Prop where
 mod:Mod X.K X.mg X.base
 kind:X.env.scope.kind= .function
 glob:X.env.globals=mainGlobals
 blt:X.env.builtins=builtinsNs
 above:X.s₀.heap.objs.size≤X.env.locals
 inj:∀x y c,X.env.cells.lookup x=some c→X.env.cells.lookup y=some c→x=y
 has:∀x,(X.env.kindOf x=some .cell∨X.env.kindOf x=some .free)→∃c,X.env.cells.lookup x=some c
 cab:∀x c,X.fn x=true→X.env.cells.lookup x=some c→X.s₀.heap.objs.size≤c
 hd:X.calm=true→X.A.handled=none
 frames:X.A.frames=some X.stack
 stk:X.stack=X.outer∨(X.stack=X.env ::X.outer∧X.env.frame=some X.env.locals)
 exf:∀b∈X.ex,b≠X.env.locals∧∀x c,X.env.cells.lookup x=some c→c≠b
 bs:∀b o,X.base.get? b=some o→X.s₀.heap.get? b=some o∧X.H₀ b=none
 bsz:X.base.objs.size≤X.s₀.heap.objs.size
 noex:∀b o,X.base.get? b=some o→b ∉ X.ex
 exfs:∀b∈X.ex,b ∉ X.fs
 nT:X.s₀.heap.FunFrames X.base X.outer
 frf:∀b∈X.fs,X.H₀ b=none
structure Inv (X:Cx) (pins:List (Addr × Obj)) (σ:List (Option V)) (H:Hp) (s:Shared):Prop where
 ok:X.Ok
 os:s.os=X.s₀.os
 bare:AllBare s.gens
 base:Un X.fs X.ex X.H₀ H X.s₀.heap s.heap
 loc:∃m,s.heap.Ns X.env.locals m∧∀(i:Nat) (x:Str) (v:V),X.N[i]? =some x→σ[i]? =some (some v)→DV X.env.scope x→∃u,RelV v u∧Look X.env s.heap m x u
 cell:∀x c,X.env.cells.lookup x=some c→∃v,s.heap.IsCell c v
 free:H X.env.locals=none
 freeC:∀x c,X.env.cells.lookup x=some c→H c=none
 pin:∀p∈X.pn++pins,s.heap.get? p.1=some p.2∧H p.1=none∧p.1≠X.env.locals∧p.1 ∉ X.fs∧∀v,p.2.data≠ .cell v
 hok:kL X.prog X.w H s.heap
 len:σ.length=X.N.length
section
variable {X:Cx} {pins:List (Addr × Obj)} {σ:List (Option V)} {H H':Hp} {s:Shared} {h':Heap}
theorem Cx.Ok.JU(ok:X.Ok){b:Addr}{o:Obj}(e:X.base.get? b=some o):b ∉ X.fs:=fun hb=>by
 have:=(ok.nT.mem hb).1
 rw[e] at this;cases this
theorem Inv.bs(I:Inv X pins σ H s):∀b o,X.base.get? b=some o→s.heap.get? b=some o∧H b=none:=fun b o e=>
 ⟨I.base.keep b o (I.ok.bs b o e).1 (I.ok.bs b o e).2 (I.ok.JU e) (I.ok.noex b o e),I.base.free b o (I.ok.bs b o e).1 (I.ok.bs b o e).2 (I.ok.noex b o e)⟩
theorem Inv.bk(I:Inv X pins σ H s):∀b o,X.base.get? b=some o→s.heap.get? b=some o:=fun b o e=>(I.bs b o e).1
theorem Inv.mod(I:Inv X pins σ H s):Mod X.K X.mg X.base:=I.ok.mod
theorem Inv.mQ(I:Inv X pins σ H s):X.K.In s.heap:=I.ok.mod.kin.keeps I.bk
theorem Inv.lt(I:Inv X pins σ H s):X.env.locals < s.heap.objs.size:=let⟨_,hn,_⟩:=I.loc;hn.lt
theorem Inv.sz(I:Inv X pins σ H s):X.s₀.heap.objs.size≤s.heap.objs.size:=Nat.le_trans I.ok.above (Nat.le_of_lt I.lt)
theorem Inv.Jk(I:Inv X pins σ H s){a:Addr}(h:s.heap.objs.size≤a):a ∉ X.fs:=fun hb=>by
 obtain⟨_,o,ho,_⟩:=I.ok.nT.mem hb
 exact absurd (Nat.lt_of_lt_of_le (Heap.lt_size ho) (Nat.le_trans I.sz h)) (Nat.lt_irrefl _)
theorem Inv.FK(I:Inv X pins σ H s):∀x c,X.env.cells.lookup x=some c→c≠X.env.locals:=fun x c e z=>by
 obtain⟨v,o,ho,hd⟩:=I.cell x c e
 obtain⟨m,⟨o',es,ep,ho',hd',_⟩,_⟩:=I.loc
 rw[z,ho'] at ho;cases ho;rw [hd'] at hd;cases hd
theorem Inv.nT(I:Inv X pins σ H s):s.heap.FunFrames X.base X.outer:=by
 have all:∀(l:List Env),(∀b∈zm l,b∈X.fs)→X.s₀.heap.FunFrames X.base l→s.heap.FunFrames X.base l:=by
  intro l
  induction l with
  | nil=>intro _ _;trivial
  | cons env r ih=>
    intro hs hl
    obtain⟨hk,⟨L,o,hf,hn,ho,hd⟩,hr⟩:=hl
    have hL:L∈X.fs:=hs L (by unfold zm;rw [List.filterMap_cons,hf];exact List.mem_cons_self)
    obtain⟨sl,e⟩:=I.base.slot L o ho (I.ok.frf L hL) hL fun z=>I.ok.exfs L z hL
    exact⟨hk,⟨L,_,hf,hn,e,hd⟩,ih (fun b hb=>hs b (by unfold zm;rw [List.filterMap_cons,hf];exact List.mem_cons_of_mem _ hb)) hr⟩
 exact all X.outer (fun _ hb=>hb) I.ok.nT
theorem Inv.stack(I:Inv X pins σ H s):s.heap.FunFrames X.base X.stack:=by
 rcases I.ok.stk with e | ⟨e,hf⟩
 ·rw[e];exact I.nT
 ·rw[e]
  obtain⟨m,hn,_⟩:=I.loc
  refine .cons (by rw[I.ok.kind];decide) hf hn ?_ I.nT
  exact Heap.get?_none_of_le (Nat.le_trans I.ok.bsz I.ok.above)
theorem Inv.vh(I:Inv X pins σ H s):∀b∈zm X.stack,b∈X.env.locals ::X.fs:=fun b hb=>by
 rcases I.ok.stk with e | ⟨e,hf⟩
 ·rw[e] at hb;exact List.mem_cons_of_mem _ hb
 ·rw[e] at hb
  unfold zm at hb
  rw[List.filterMap_cons,hf] at hb
  exact hb
theorem Inv.xA(I:Inv X pins σ H s):∀b∈zm X.stack,H b=none:=fun b hb=>by
 rcases List.mem_cons.mp (I.vh b hb) with e | hb
 ·rw[e];exact I.free
 ·obtain⟨_,o,ho,_⟩:=I.ok.nT.mem hb
  exact I.base.free b o ho (I.ok.frf b hb) fun z=>I.ok.exfs b z hb
theorem Inv.step{g':Array GenState}{t':Nat}{d':Drawn}{ch:List Addr}(I:Inv X pins σ H s)
 (hch:∀b∈ch,(b∈X.ex∨X.s₀.heap.objs.size≤b)∧b≠X.env.locals∧(∀x c,X.env.cells.lookup x=some c→c≠b)∧∀p∈X.pn++pins,p.1≠b)
 (keep:∀b o,b≠X.env.locals→b ∉ X.fs→b ∉ ch→s.heap.get? b=some o→H b=none→h'.get? b=some o)
 (slot:∀b o,b≠X.env.locals→b∈X.fs→b ∉ ch→s.heap.get? b=some o→H b=none→∃sl,h'.get? b=some {o with slots:=sl}) (free:∀b o,b ∉ ch→s.heap.get? b=some o→H b=none→H' b=none)
 (there:∀b o,b ∉ ch→s.heap.get? b=some o→∃o',h'.get? b=some o')
 (tups:∀b xs,H b=some (.tup xs)→H' b=some (.tup xs)) (frzs:∀b o u,H b=some (.gq o u)→H' b=some (.gq o u)) (tbls:∀b ps,H b=some (.tbl ps)→∃more,H' b=some (.tbl (ps++more)))
 (ns:∀m,s.heap.Ns X.env.locals m→h'.Ns X.env.locals m) (hok:kL X.prog X.w H' h') (hg:AllBare g') :
 Inv X pins σ H' {s with heap:=h',gens:=g',drawn:=d',toks:=t'}:=by
 have neL:∀b o,X.s₀.heap.get? b=some o→b≠X.env.locals:=fun b o e=>Nat.ne_of_lt (Nat.lt_of_lt_of_le (Heap.lt_size e) I.ok.above)
 have neC:∀b o,X.s₀.heap.get? b=some o→b ∉ X.ex→b ∉ ch:=fun b o e hx hb=>by
  rcases(hch b hb).1 with z | z
  ·exact hx z
  ·exact absurd (Nat.lt_of_lt_of_le (Heap.lt_size e) z) (Nat.lt_irrefl _)
 have cellK:∀x c,X.env.cells.lookup x=some c→∀v,s.heap.IsCell c v→h'.IsCell c v:=fun x c e v ⟨o,ho,hd⟩=>by
  have nch:c ∉ ch:=fun z=>(hch c z).2.2.1 x c e rfl
  by_cases hc:c∈X.fs
  ·obtain⟨sl,q⟩:=slot c o (I.FK x c e) hc nch ho (I.freeC x c e)
   exact⟨_,q,hd⟩
  ·exact⟨o,keep c o (I.FK x c e) hc nch ho (I.freeC x c e),hd⟩
 refine⟨I.ok,I.os,hg,⟨fun b o e n hb hx=>?_,fun b o e n hb hx=>?_,fun b o e n hx=>?_,fun b o e hx=>?_,fun b xs e=>tups b xs (I.base.tups b xs e),fun b o xs e=>frzs b o xs (I.base.frzs b o xs e),fun b ps e=>?_⟩,?_,fun x c e=>?_,?_,fun x c e=>?_,fun p hp=>?_,hok,I.len⟩
 ·exact keep b o (neL b o e) hb (neC b o e hx) (I.base.keep b o e n hb hx) (I.base.free b o e n hx)
 ·obtain⟨sl,e1⟩:=I.base.slot b o e n hb hx
  obtain⟨sl',e2⟩:=slot b _ (neL b o e) hb (neC b o e hx) e1 (I.base.free b o e n hx)
  exact⟨sl',e2⟩
 ·obtain⟨o',e1⟩:=I.base.there b o e hx
  exact free b o' (neC b o e hx) e1 (I.base.free b o e n hx)
 ·obtain⟨o',e1⟩:=I.base.there b o e hx
  exact there b o' (neC b o e hx) e1
 ·obtain⟨m1,e1⟩:=I.base.tbls b ps e
  obtain⟨m2,e2⟩:=tbls b _ e1
  exact⟨m1++m2,by rw[e2,Array.append_assoc]⟩
 ·obtain⟨m,hn,hl⟩:=I.loc
  refine⟨m,ns m hn,fun i x v e1 e2 e3=>?_⟩
  obtain⟨u,r,l⟩:=hl i x v e1 e2 e3
  refine⟨u,r,?_⟩
  rcases l with l | ⟨k,c,e,z⟩
  ·exact .inl l
  ·exact .inr ⟨k,c,e,cellK x c e _ z⟩
 ·obtain⟨v,z⟩:=I.cell x c e
  exact⟨v,cellK x c e v z⟩
 ·obtain⟨m,⟨o,_,_,ho,_⟩,_⟩:=I.loc
  exact free _ o (fun z=>(hch _ z).2.1 rfl) ho I.free
 ·obtain⟨v,o,ho,hd⟩:=I.cell x c e
  exact free c o (fun z=>(hch c z).2.2.1 x c e rfl) ho (I.freeC x c e)
 ·obtain⟨e,n,ne,nf,d⟩:=I.pin p hp
  have nch:p.1 ∉ ch:=fun z=>(hch p.1 z).2.2.2 p hp rfl
  exact⟨keep p.1 p.2 ne nf nch e n,free p.1 p.2 nch e n,ne,nf,d⟩
theorem Inv.un{t':Nat}(I:Inv X pins σ H s)(u:Un X.fs [] H H' s.heap h')(hok:kL X.prog X.w H' h'):Inv X pins σ H' {s with heap:=h',toks:=t'}:=by
 obtain⟨m,⟨o,es,ep,ho,r⟩,_⟩:=id I.loc
 obtain⟨sl,hL⟩:=u.any ho I.free (by simp)
 exact I.step (g':=s.gens) (d':=s.drawn) (ch:=[]) (fun _ z=>nomatch z) (fun b o _ hb _ e n=>u.keep b o e n hb (by simp)) (fun b o _ hb _ e n=>u.slot b o e n hb (by simp)) (fun b o _ e n=>u.free b o e n (by simp)) (fun b o _ e=>u.there b o e (by simp)) u.tups u.frzs u.tbls (fun m' hm=>by
  obtain⟨o',es',ep',ho',r'⟩:=hm
  rw[ho] at ho';cases ho'
  exact⟨_,es',ep',hL,r'⟩) hok I.bare
theorem Inv.call{g':Array GenState}{t':Nat}{d':Drawn}{ch:List Addr}(I:Inv X pins σ H s)(u:Un (zm X.stack) ch H H' s.heap h')(hok:kL X.prog X.w H' h')(hg:AllBare g')
 (hch:∀b∈ch,(b∈X.ex∨X.s₀.heap.objs.size≤b)∧b≠X.env.locals∧(∀x c,X.env.cells.lookup x=some c→c≠b)∧∀p∈X.pn++pins,p.1≠b) :
 Inv X pins σ H' {s with heap:=h',gens:=g',drawn:=d',toks:=t'}:=by
 obtain⟨m,⟨o,es,ep,ho,r⟩,_⟩:=id I.loc
 obtain⟨sl,hL⟩:=u.any ho I.free fun z=>(hch _ z).2.1 rfl
 exact I.step (ch:=ch) hch (fun b o hL hb hc e n=>u.keep b o e n (fun z=>(List.mem_cons.mp (I.vh b z)).elim hL hb) hc) (fun b o _ _ hc e n=>u.any e n hc) (fun b o hc e n=>u.free b o e n hc) (fun b o hc e=>u.there b o e hc) u.tups u.frzs u.tbls (fun m' hm=>by
  obtain⟨o',es',ep',ho',r'⟩:=hm
  rw[ho] at ho';cases ho'
  exact⟨_,es',ep',hL,r'⟩) hok hg
theorem Inv.turned{t':Nat}{it:Addr}(I:Inv X pins σ H s)(k:∀b o,b≠it→s.heap.get? b=some o→h'.get? b=some o)(hn:H it=none)(hL:it≠X.env.locals)
 (h1:it∈X.ex∨X.s₀.heap.objs.size≤it) (h2:∀x c,X.env.cells.lookup x=some c→c≠it) (h3:∀p∈X.pn++pins,p.1≠it):Inv X pins σ H {s with heap:=h',toks:=t'}:=by
 have nit:∀b u,H b=some u→b≠it:=fun b u e z=>by rw[z,hn] at e;cases e
 refine I.step (g':=s.gens) (d':=s.drawn) (ch:=[it]) (fun b hb=>?_) (fun b o _ _ hc e _=>k b o (fun z=>hc (by simp [z])) e) (fun b o _ _ hc e _=>⟨o.slots,k b o (fun z=>hc (by simp [z])) e⟩) (fun _ _ _ _ n=>n)
  (fun b o hc e=>⟨o,k b o (fun z=>hc (by simp [z])) e⟩) (fun _ _ e=>e) (fun _ _ _ e=>e) (fun b ps e=>⟨#[],by rw[e];simp⟩) (fun m hm=>?_) (fun b u e=>?_) I.bare
 ·have e:b=it:=by simpa using hb
  subst e
  exact⟨h1,hL,h2,h3⟩
 ·obtain⟨o,es,ep,ho,r⟩:=hm
  exact⟨o,es,ep,k _ o (Ne.symm hL) ho,r⟩
 ·refine(I.hok b u e).tu (fun c v hc q=>k c v ?_ q) (fun _ q=>q) fun _ _ q=>q
  rcases hc with z | z
  ·rw[z];exact nit b u e
  ·exact nit c _ z
theorem Inv.tok(I:Inv X pins σ H s)(t:Nat):Inv X pins σ H {s with toks:=t}:=I.un (h':=s.heap) (t':=t) Un.refl I.hok
theorem Inv.kept{t':Nat}(I:Inv X pins σ H s)(k:∀b u,s.heap.get? b=some u→h'.get? b=some u):Inv X pins σ H {s with heap:=h',toks:=t'}:=I.un (Un.kept k) (I.hok.kept k)
theorem Inv.laid{a:Addr}{o:HO}{t':Nat}(I:Inv X pins σ H s)(k:∀b u,s.heap.get? b=some u→h'.get? b=some u)(hp:s.heap.objs.size≤a)(new:c9 X.prog X.w (upd H a o) h' a o) :
 Inv X pins σ (upd H a o) {s with heap:=h',toks:=t'}:=I.un (Un.laid k hp (I.hok.fresh hp)) (I.hok.laid k hp new)
theorem Inv.write{x e:Addr}{o:HO}{t':Nat}(I:Inv X pins σ H s)(mu:HA (H x))(he:e=x∨H e=some (.own x))(k:∀b u,b≠e→s.heap.get? b=some u→h'.get? b=some u)(heo:∃u,h'.get? e=some u)
 (new:c9 X.prog X.w (upd H x o) h' x o):Inv X pins σ (upd H x o) {s with heap:=h',toks:=t'}:=I.un (Un.write mu he k heo) (I.hok.write mu he k heo new)
theorem Inv.xf{pins':List (Addr × Obj)}(I:Inv X pins σ H s)(h:∀p∈pins',s.heap.get? p.1=some p.2∧H p.1=none∧p.1≠X.env.locals∧p.1 ∉ X.fs∧∀v,p.2.data≠ .cell v):Inv X pins' σ H s:=
 ⟨I.ok,I.os,I.bare,I.base,I.loc,I.cell,I.free,I.freeC,fun p hp=>(List.mem_append.mp hp).elim (fun z=>I.pin p (List.mem_append_left _ z)) (h p),I.hok,I.len⟩
theorem u6{N:List Str}(hN:N.Nodup){i j:Nat}{x:Str}(a:N[i]? =some x)(b:N[j]? =some x):i=j:=by
 obtain⟨h1,e1⟩:=List.getElem?_eq_some_iff.mp a
 obtain⟨h2,e2⟩:=List.getElem?_eq_some_iff.mp b
 exact(List.getElem_inj hN).mp (e1.trans e2.symm)
theorem qS{M:Model}{A:Around}{E:Value→Shared→Prop}{i:Nat}{x:Str}{v:V}{u:Value}{Q:Unit→Shared→Prop}(I:Inv X pins σ H s)(hN:X.N.Nodup)(hi:X.N[i]? =some x)(hx:Loc X.env.scope x)(r:RelV v u)
 (h:∀s',Inv X pins (σ.set i (some v)) H s'→(∃a,Heap.SameBut a s.heap s'.heap∧(a=X.env.locals∨X.env.cells.lookup x=some a))→Q () s') (hf:X.fn x=true∨X.env.scope.names.lookup x=some .local:=by first | exact .inl rfl | exact .inr rfl | assumption):wpAny M A (storeName X.env x u) Q E s:=by
 obtain⟨m,hn,hl⟩:=id I.loc
 have hcls:(X.env.scope.kind== .class || (X.env.scope.kind== .module && X.env.locals !=X.env.globals))=false:=by rw[I.ok.kind];rfl
 have hiσ:i < σ.length:=by rw[I.len];exact(List.getElem?_eq_some_iff.mp hi).1
 have FK:=I.FK
 have tracked:∀{a:Addr} {h':Heap},(∃o,s.heap.get? a=some o∧H a=none)→Heap.SameBut a s.heap h'→kL X.prog X.w H h':=fun {a h'} ha hs b ob e=>by
  obtain⟨_,_,hfree⟩:=ha
  refine(I.hok b ob e).tu (fun c w' hc q=>(hs.2 c ?_).trans q) (fun _ q=>q) fun _ _ q=>q
  rintro rfl
  rcases hc with rfl | hc
  ·rw[hfree] at e;cases e
  ·rw[hfree] at hc;cases hc
 rcases hx with hk | hk
 ·refine wpAny_storeName_local hk hn (fun h' hn' hs=>?_) hcls
  obtain⟨oL,_,_,hoL,_⟩:=id hn
  refine h _ ⟨I.ok,I.os,I.bare,⟨fun b o e n hb hx=>?_,fun b o e n hb hx=>?_,I.base.free,fun b o e hx=>?_,I.base.tups,I.base.frzs,I.base.tbls⟩,⟨_,hn',fun j y v' e1 e2 e3=>?_⟩,fun y c e=>?_,I.free,I.freeC,fun p hp=>?_,tracked ⟨oL,hoL,I.free⟩ hs,by simpa using I.len⟩ ⟨_,hs, .inl rfl⟩
  ·exact(hs.2 b (Nat.ne_of_lt (Nat.lt_of_lt_of_le (Heap.lt_size e) I.ok.above))).trans (I.base.keep b o e n hb hx)
  ·obtain⟨sl,e1⟩:=I.base.slot b o e n hb hx
   exact⟨sl,(hs.2 b (Nat.ne_of_lt (Nat.lt_of_lt_of_le (Heap.lt_size e) I.ok.above))).trans e1⟩
  ·obtain⟨o',e1⟩:=I.base.there b o e hx
   exact⟨o',(hs.2 b (Nat.ne_of_lt (Nat.lt_of_lt_of_le (Heap.lt_size e) I.ok.above))).trans e1⟩
  ·by_cases hj:j=i
   ·subst hj
    rw[hi] at e1;cases e1
    rw[List.getElem?_set_self hiσ] at e2
    cases e2
    exact⟨u,r, .inl ⟨hk,by simp⟩⟩
   ·rw[List.getElem?_set_ne (Ne.symm hj)] at e2
    obtain⟨u',r',q⟩:=hl j y v' e1 e2 e3
    refine⟨u',r',?_⟩
    rcases q with⟨k,e⟩ | ⟨k,c,e,z⟩
    ·refine .inl ⟨k,?_⟩
     have:y≠x:=fun e=>hj (u6 hN e1 (e▸hi))
     simp [this,e]
    ·exact .inr ⟨k,c,e,z.sameBut hs (FK y c e)⟩
  ·obtain⟨w',z⟩:=I.cell y c e
   exact⟨w',z.sameBut hs (FK y c e)⟩
  ·obtain⟨e,n,ne,nf,d⟩:=I.pin p hp
   exact⟨(hs.2 p.1 ne).trans e,n,ne,nf,d⟩
 ·have hfn:X.fn x=true:=by
   rcases hf with z | z
   ·exact z
   ·rw[z] at hk;cases hk
  obtain⟨c,hc⟩:=I.ok.has x (.inl hk)
  obtain⟨w',z⟩:=I.cell x c hc
  refine wpAny_storeName_cell I.ok.kind hk hc z (fun h' hc' hs=>?_)
  obtain⟨oc,hoc,hocd⟩:=id z
  refine h {s with heap:=h'} ⟨I.ok,I.os,I.bare,⟨fun b o e n hb hx=>?_,fun b o e n hb hx=>?_,I.base.free,fun b o e hx=>?_,I.base.tups,I.base.frzs,I.base.tbls⟩,⟨m,hn.sameBut hs (Ne.symm (FK x c hc)),fun j y v' e1 e2 e3=>?_⟩,fun y c' e=>?_,I.free,I.freeC,fun p hp=>?_,tracked ⟨oc,hoc,I.freeC x c hc⟩ hs,by simpa using I.len⟩ ⟨c,hs, .inr hc⟩
  ·exact(hs.2 b (Nat.ne_of_lt (Nat.lt_of_lt_of_le (Heap.lt_size e) (I.ok.cab x c hfn hc)))).trans (I.base.keep b o e n hb hx)
  ·obtain⟨sl,e1⟩:=I.base.slot b o e n hb hx
   exact⟨sl,(hs.2 b (Nat.ne_of_lt (Nat.lt_of_lt_of_le (Heap.lt_size e) (I.ok.cab x c hfn hc)))).trans e1⟩
  ·obtain⟨o',e1⟩:=I.base.there b o e hx
   exact⟨o',(hs.2 b (Nat.ne_of_lt (Nat.lt_of_lt_of_le (Heap.lt_size e) (I.ok.cab x c hfn hc)))).trans e1⟩
  ·by_cases hj:j=i
   ·subst hj
    rw[hi] at e1;cases e1
    rw[List.getElem?_set_self hiσ] at e2
    cases e2
    exact⟨u,r, .inr ⟨.inl hk,c,hc,hc'⟩⟩
   ·rw[List.getElem?_set_ne (Ne.symm hj)] at e2
    obtain⟨u',r',q⟩:=hl j y v' e1 e2 e3
    refine⟨u',r',?_⟩
    rcases q with q | ⟨k,c',e,z'⟩
    ·exact .inl q
    ·refine .inr ⟨k,c',e,z'.sameBut hs ?_⟩
     rintro rfl
     exact hj (u6 hN e1 (I.ok.inj _ _ _ e hc▸hi))
  ·by_cases hcc:c'=c
   ·subst hcc;exact⟨_,hc'⟩
   ·obtain⟨w2,z2⟩:=I.cell y c' e
    exact⟨w2,z2.sameBut hs hcc⟩
  ·obtain⟨e,n,ne,nf,d⟩:=I.pin p hp
   refine⟨(hs.2 p.1 ?_).trans e,n,ne,nf,d⟩
   intro q
   rw[q,hoc] at e
   have q':oc=p.2:=Option.some.inj e
   exact d w' (by rw[←q'];exact hocd)
theorem uW{M:Model}{A:Around}{E:Value→Shared→Prop}{i:Nat}{x:Str}{v:V}{u:Value}{Q:Unit→Shared→Prop}(I:Inv X pins σ H s)(hN:X.N.Nodup)(hi:X.N[i]? =some x)(hx:Loc X.env.scope x)(r:RelV v u)
 (h:∀s',Inv X pins (σ.set i (some v)) H s'→Q () s') (hf:X.fn x=true∨X.env.scope.names.lookup x=some .local:=by first | exact .inl rfl | exact .inr rfl | assumption):wpAny M A (storeName X.env x u) Q E s:=
 qS I hN hi hx r (fun s' I' _=>h s' I') hf
theorem Inv.Hw{s':Shared}{ch:List Addr}(I:Inv X pins σ H s)(ho:s'.os=s.os)(u:Un (zm X.stack) ch H H' s.heap s'.heap)(hok:kL X.prog X.w H' s'.heap)(hg:AllBare s'.gens)
 (hch:∀b∈ch,(b∈X.ex∨X.s₀.heap.objs.size≤b)∧b≠X.env.locals∧(∀x c,X.env.cells.lookup x=some c→c≠b)∧∀p∈X.pn++pins,p.1≠b):Inv X pins σ H' s':=by
 obtain⟨h',g',d',t',o'⟩:=s'
 have e:o'=s.os:=ho
 subst e
 exact I.call (g':=g') (t':=t') (d':=d') u hok hg hch
end
noncomputable abbrev XK:=Value→Option Addr→Hp→Prop
noncomputable abbrev St:=List (Option V)
noncomputable abbrev VK:=V→Hp→Prop
noncomputable abbrev TE:=St→Hp→VK→Prop
noncomputable abbrev TT:=St→Hp→(Bool→Hp→Prop)→Prop
noncomputable abbrev TA:=St→Hp→(List V→Hp→Prop)→Prop
structure Ends where
 nx:St→Hp→Prop
 rt:VK
 bk:St→Hp→Prop:=fun _ _=>False
 ct:St→Hp→Prop:=fun _ _=>False
noncomputable abbrev TS:=Ends→St→Hp→Prop
noncomputable def EP(X:Cx)(pins:List (Addr × Obj))(σ:St)(Q:VK)(u:Value)(s':Shared):Prop:=∃v H',Inv X pins σ H' s'∧RelV v u∧Q v H'
noncomputable def TP(X:Cx)(pins:List (Addr × Obj))(σ:St)(Q:Bool→Hp→Prop)(b:Bool)(s':Shared):Prop:=∃H',Inv X pins σ H' s'∧Q b H'
noncomputable def AP(X:Cx)(pins:List (Addr × Obj))(σ:St)(Q:List V→Hp→Prop)(us:List Value)(s':Shared):Prop:=∃vs H',Inv X pins σ H' s'∧Vals vs us∧Q vs H'
noncomputable def SP(X:Cx)(pins:List (Addr × Obj))(D:Ends)(f:Flow)(s':Shared):Prop:=
 match f with
 | .next=>∃σ' H',Inv X pins σ' H' s'∧D.nx σ' H'
 | .brk=>∃σ' H',Inv X pins σ' H' s'∧D.bk σ' H'
 | .cont=>∃σ' H',Inv X pins σ' H' s'∧D.ct σ' H'
 | .ret u=>∃v σ' H',Inv X pins σ' H' s'∧RelV v u∧D.rt v H'
noncomputable def PE(X:Cx)(e:Expr)(t:TE):Prop:=
 ∀(pins:List (Addr × Obj)) (s:Shared) (σ:St) (H:Hp) (Q:VK),Inv X pins σ H s→t σ H Q→wpAny (model X.prog X.w) X.A (eval e X.env) (EP X pins σ Q) X.xe s
noncomputable def PT(X:Cx)(e:Expr)(t:TT):Prop:=
 ∀(pins:List (Addr × Obj)) (s:Shared) (σ:St) (H:Hp) (Q:Bool→Hp→Prop),Inv X pins σ H s→t σ H Q→wpAny (model X.prog X.w) X.A (isTrue e X.env (eval e X.env)) (TP X pins σ Q) X.xe s
noncomputable def PW(X:Cx)(e:Expr)(t:TT):Prop:=
 ∀(whole:Sem Value) (pins:List (Addr × Obj)) (s:Shared) (σ:St) (H:Hp) (Q:Bool→Hp→Prop),Inv X pins σ H s→t σ H Q→wpAny (model X.prog X.w) X.A (isTrue e X.env whole) (TP X pins σ Q) X.xe s
theorem PW.pt{X:Cx}{e:Expr}{t:TT}(h:PW X e t):PT X e t:=h _
noncomputable def PA(X:Cx)(es:List Expr)(t:TA):Prop:=
 ∀(pos:Pos) (pins:List (Addr × Obj)) (s:Shared) (σ:St) (H:Hp) (Q:List V→Hp→Prop),Inv X pins σ H s→t σ H Q→wpAny (model X.prog X.w) X.A (spliced (backTo pos (starEach es X.env))) (AP X pins σ Q) X.xe s
noncomputable def PS(X:Cx)(st:Stmt)(t:TS):Prop:=
 ∀(pins:List (Addr × Obj)) (s:Shared) (σ:St) (H:Hp) (D:Ends),Inv X pins σ H s→t D σ H→wpAny (model X.prog X.w) X.A (exec st X.env) (SP X pins D) X.xe s
noncomputable def r9(X:Cx)(st:List Stmt)(t:TS):Prop:=
 ∀(pins:List (Addr × Obj)) (s:Shared) (σ:St) (H:Hp) (D:Ends),Inv X pins σ H s→t D σ H→wpAny (model X.prog X.w) X.A (execs st X.env) (SP X pins D) X.xe s
theorem dw{α:Type}{t:Sem α}{Q Q':α→Shared→Prop}{M:Model}{A:Around}{E:Value→Shared→Prop}{s:Shared}(h:wpAny M A t Q E s)(hQ:∀a s,Q a s→Q' a s):wpAny M A t Q' E s:=wpAny_mono h hQ fun _ _ x=>x
end L2
namespace L2
open PySem PySem.Spec PyProof.Rows
section
variable {X:Cx}
noncomputable def JF(i:Nat):TE:=fun σ H Q=>∃v,σ[i]? =some (some v)∧Q v H
noncomputable def tC(v:V):TE:=fun _ H Q=>Q v H
theorem sS{i:Nat}{x:Str}{pos:Pos}(hN:X.N[i]? =some x)(hv:DV X.env.scope x)(hd:(x==("__debug__":Str))=false:=by decide)(hcd:(x==("__classdict__":Str))=false:=by decide):PE X (.Name x pos) (JF i):=by
 intro pins s σ H Q I h
 obtain⟨v,e,h⟩:=h
 obtain⟨m,hn,hl⟩:=I.loc
 obtain⟨u,r,l⟩:=hl i x v hN e hv
 have fin:EP X pins σ Q u s:=⟨v,H,I,r,h⟩
 rcases l with⟨hk,hm⟩ | ⟨hk,c,hc,hcell⟩
 ·exact wpAny_Name (wpAny_loadName_local I.ok.kind hk hn hm fin) hd
 ·rcases hk with hk | hk
  ·exact wpAny_Name (wpAny_loadName_cell I.ok.kind hk hc hcell fin) hd
  ·exact wpAny_Name (wpAny_loadName_free I.ok.kind hk hc hcell fin hcd) hd
theorem EL{i j pos}:PE X (.Constant (.int i) j pos) (tC (.int i)):=fun _ _ _ H _ I h=>wpAny_Constant_int ⟨.int i,H,I.tok _,⟨_,rfl⟩,h⟩
theorem GQ{b j pos}:PE X (.Constant (.bool b) j pos) (tC (.bl b)):=fun _ _ _ H _ I h=>Constant_bool ⟨.bl b,H,I,rfl,h⟩
theorem EB{j pos}:PE X (.Constant .none j pos) (tC .bX):=fun _ _ _ H _ I h=>Constant_none ⟨.bX,H,I,rfl,h⟩
theorem Gu{x j pos}:PE X (.Constant (.str x) j pos) (tC (.str x)):=fun _ _ _ H _ I h=>Calls.Constant_str ⟨.str x,H,I.tok _,⟨_,rfl⟩,h⟩
noncomputable def Gl(X:Cx)(x:Str):Prop:=X.env.kindOf x=some .globalImplicit
theorem xp{E:Value→Shared→Prop}{pins:List (Addr × Obj)}{s:Shared}{σ:St}{H:Hp}{x:Str}{u:Value}{pos:Pos}{Q:Value→Shared→Prop}(I:Inv X pins σ H s)(hg:Gl X x)(hm:X.mg x=some u)(h:Q u s)
 (hd:(x==("__debug__":Str))=false:=by decide):wpAny (model X.prog X.w) X.A (eval (.Name x pos) X.env) Q E s:=
 Calls.Name_function_global I.ok.kind hg (Calls.loadGlobal_global (by rw[I.ok.glob];exact I.mod.glob.keeps I.bk) hm h) hd
theorem iM{E:Value→Shared→Prop}{pins:List (Addr × Obj)}{s:Shared}{σ:St}{H:Hp}{x:Str}{u:Value}{pos:Pos}{Q:Value→Shared→Prop}(I:Inv X pins σ H s)(hg:Gl X x)(hm:X.mg x=none)(hv:bootBuiltins x=some u)(h:Q u s)
 (hn:x≠"__name__":=by decide) (hd:(x==("__debug__":Str))=false:=by decide):wpAny (model X.prog X.w) X.A (eval (.Name x pos) X.env) Q E s:=by
 obtain⟨mb,h1,h2⟩:=I.mod.blt
 exact Calls.Name_function_global I.ok.kind hg (Calls.loadGlobal_builtin (by rw[I.ok.glob];exact I.mod.glob.keeps I.bk) hm (by rw[I.ok.blt];exact h1.keeps I.bk) ((h2 x hn).trans hv) h) hd
theorem Ck{x:Str}{v:V}{u:Value}{pos:Pos}(hg:Gl X x)(hm:X.mg x=none)(hv:bootBuiltins x=some u)(r:RelV v u)(hn:x≠"__name__":=by decide)(hd:(x==("__debug__":Str))=false:=by decide):PE X (.Name x pos) (tC v):=
 fun _ _ _ H _ I h=>iM I hg hm hv ⟨v,H,I,r,h⟩ hn hd
noncomputable def Iz(ta tb:TE)(k:Int→Int→Hp→Prop):St→Hp→Prop:=fun σ H=>ta σ H fun x H1=>tb σ H1 fun y H2=>∃i j,x= .int i∧y= .int j∧k i j H2
noncomputable def Ld(ta tb:TE):TE:=fun σ H Q=>Iz ta tb (fun i j H2=>Q (.int (i+j)) H2) σ H
noncomputable def LJ(ta tb:TE):TE:=fun σ H Q=>Iz ta tb (fun i j H2=>Q (.int (i - j)) H2) σ H
noncomputable def Lr(ta tb:TE):TE:=fun σ H Q=>Iz ta tb (fun i j H2=>(-(2 ^ 64) < i∧i < 2 ^ 64)∧Q (.int (i*j)) H2) σ H
variable {a b:Expr} {ta tb:TE} {pos:Pos}
noncomputable def PC(X:Cx)(op:CmpOp)(a b:Expr)(t:TE):Prop:=
 ∀(pins:List (Addr × Obj)) (s:Shared) (σ:St) (H:Hp) (Q:VK),Inv X pins σ H s→t σ H Q→
  wpAny (model X.prog X.w) X.A (eval a X.env) (fun v s₁=>wpAny (model X.prog X.w) X.A (eval b X.env) (fun u s₂=>wpAny (model X.prog X.w) X.A (compareOp op v u) (EP X pins σ Q) X.xe s₂) X.xe s₁) X.xe s
noncomputable def yM(p:Int→Int→Bool)(ta tb:TE):TE:=fun σ H Q=>Iz ta tb (fun i j H2=>Q (.bl (p i j)) H2) σ H
noncomputable abbrev LX:TE→TE→TE:=yM fun i j=>decide (i < j)
noncomputable abbrev L6:TE→TE→TE:=yM fun i j=>decide (i≤j)
noncomputable abbrev Md:TE→TE→TE:=yM fun i j=>decide (j < i)
noncomputable abbrev LW:TE→TE→TE:=yM fun i j=>decide (j≤i)
noncomputable abbrev KQ:TE→TE→TE:=yM fun i j=>decide (i=j)
noncomputable abbrev KS:TE→TE→TE:=yM fun i j=>!decide (i=j)
noncomputable def LC(ta:TE):TE:=fun σ H Q=>ta σ H fun x H1=>Q (.bl (decide (x= .bX))) H1
noncomputable def Ks(ta:TE):TE:=fun σ H Q=>ta σ H fun x H1=>Q (.bl (!decide (x= .bX))) H1
noncomputable def tB(t:TE):TT:=fun σ H Q=>t σ H fun x H1=>∃c,x= .bl c∧Q c H1
theorem Gd{op:CmpOp}{t:TE}(h:PC X op a b t)(h1:behindInMarks op b=false:=by first | exact nobehind _ (by decide) (by decide) | rfl):PE X (.Compare a [op] [b] pos) t:=fun pins s σ H Q I hw=>wpAny_Compare1 (h pins s σ H Q I hw) h1
variable {tA tB':TT} {rest:List Expr}
noncomputable def Jd(t u:TT):TT:=fun σ H Q=>t σ H fun c H1=>if c=true then u σ H1 Q else Q false H1
noncomputable def KY(t u:TT):TT:=fun σ H Q=>t σ H fun c H1=>if c=true then Q true H1 else u σ H1 Q
noncomputable def Jw(t:TT):TT:=fun σ H Q=>t σ H fun c H1=>Q (!c) H1
theorem Cg(ha:PT X a tA):PW X (.BoolOp .And [a] pos) tA:=by
 intro wh pins s σ H Q I h
 refine isTrue_and (dw (ha pins s σ H Q I h) fun c s1 e=>?_)
 cases c with
 | true=>exact isTrue_and_nil e
 | false=>exact e
theorem Fx(ha:PT X a tA):PW X (.BoolOp .Or [a] pos) tA:=by
 intro wh pins s σ H Q I h
 refine isTrue_or (dw (ha pins s σ H Q I h) fun c s1 e=>?_)
 cases c with
 | false=>exact isTrue_or_nil e
 | true=>exact e
theorem EX(ha:PT X a tA)(hb:PW X (.BoolOp .And (b ::rest) pos) tB'):PW X (.BoolOp .And (a ::b ::rest) pos) (Jd tA tB'):=by
 intro wh pins s σ H Q I h
 refine isTrue_and (dw (ha pins s σ H _ I h) fun c s1 ⟨H1,I1,q1⟩=>?_)
 cases c with
 | true=>exact hb wh pins s1 σ H1 Q I1 q1
 | false=>exact⟨H1,I1,q1⟩
theorem GY(ha:PT X a tA)(hb:PW X (.BoolOp .Or (b ::rest) pos) tB'):PW X (.BoolOp .Or (a ::b ::rest) pos) (KY tA tB'):=by
 intro wh pins s σ H Q I h
 refine isTrue_or (dw (ha pins s σ H _ I h) fun c s1 ⟨H1,I1,q1⟩=>?_)
 cases c with
 | true=>exact⟨H1,I1,q1⟩
 | false=>exact hb wh pins s1 σ H1 Q I1 q1
theorem zR(ha:PT X a tA):PT X (.UnaryOp .Not a pos) (Jw tA):=by
 intro pins s σ H Q I h
 exact isTrue_not (ha pins s σ H (fun c H1=>Q (!c) H1) I h)
noncomputable def Kf(ta tb:TE):TE:=fun σ H Q=>ta σ H fun x H1=>∃c,x= .bl c∧if c=true then tb σ H1 Q else Q (.bl false) H1
noncomputable def Lj(ta tb:TE):TE:=fun σ H Q=>ta σ H fun x H1=>∃c,x= .bl c∧if c=true then Q (.bl true) H1 else tb σ H1 Q
noncomputable def Ki(ta:TE):TE:=fun σ H Q=>ta σ H fun x H1=>∃c,x= .bl c∧Q (.bl (!c)) H1
noncomputable def KG(t:TT)(ta tb:TE):TE:=fun σ H Q=>t σ H fun c H1=>if c=true then ta σ H1 Q else tb σ H1 Q
theorem AL{c:Expr}(hc:PT X c tA)(ha:PE X a ta)(hb:PE X b tb):PE X (.IfExp c a b pos) (KG tA ta tb):=by
 intro pins s σ H Q I h
 refine wpAny_IfExp (dw (hc pins s σ H _ I h) fun d s1 ⟨H1,I1,q1⟩=>?_)
 cases d with
 | true=>exact ha pins s1 σ H1 Q I1 q1
 | false=>exact hb pins s1 σ H1 Q I1 q1
end
end L2
namespace L2
open PySem PySem.Spec PyProof.Rows
noncomputable def lR(K:PySem.W.Frag)(H:Hp)(a:Addr)(xs:List V):Prop:=
 Rd H a (.lst xs)∨
  ∃(o:Obj) (its:Array Value) (n:Nat),K.lookup a=some o∧o.cls= .type "list"∧o.dict=none∧o.data= .seq its n∧its.size≤sizeLine∧Vals xs its.toList
noncomputable def nH(K:PySem.W.Frag)(H:Hp)(a:Addr)(xs:List V):Prop:=
 Rd H a (.tup xs)∨
  ∃(o:Obj) (its:Array Value) (n:Nat),K.lookup a=some o∧o.cls= .type "tuple"∧o.data= .seq its n∧its.size≤sizeLine∧Vals xs its.toList
noncomputable def Jy:Value→Option V
 | .none=>some .bX
 | .bool b=>some (.bl b)
 | .int i _=>some (.int i)
 | .str x _=>some (.str x)
 | .bytes b _=>some (.byt b)
 | .float b _=>some (.flt b)
 | .ref a=>some (.ref a)
 | .type n=>some (.ty n)
 | _=>none
theorem RelV.abs{x:V}{u:Value}(r:RelV x u):Jy u=some x:=by
 cases x with
 | bX=>cases r;rfl
 | bl _=>cases r;rfl
 | int _=>obtain⟨t,rfl⟩:=r;rfl
 | str _=>obtain⟨t,rfl⟩:=r;rfl
 | byt _=>obtain⟨t,rfl⟩:=r;rfl
 | flt _=>obtain⟨t,rfl⟩:=r;rfl
 | ref _=>cases r;rfl
 | ty _=>cases r;rfl
theorem RelV.inj{x y:V}{u:Value}(r:RelV x u)(q:RelV y u):x=y:=Option.some.inj (r.abs.symm.trans q.abs)
theorem Vals.inj:∀{xs ys:List V} {us:List Value},Vals xs us→Vals ys us→xs=ys
 | _,_,_, .nil, .nil=>rfl
 | _,_,_, .cons r t, .cons r' t'=>by rw[r.inj r',Vals.inj t t']
section
variable {X:Cx} {pins:List (Addr × Obj)} {σ:St} {H:Hp} {s:Shared} {a:Addr} {xs ys:List V}
theorem lR.of{K:PySem.W.Frag}(h:H a=some (.lst xs)):lR K H a xs:= .inl (.inl h)
theorem Inv.list(I:Inv X pins σ H s)(h:lR X.K H a xs):∃its:List Value,Vals xs its∧PlainL s.heap a its.toArray∧xs.length≤sizeLine:=by
 rcases h with h | ⟨o,its,n,hk,hc,hd,hs,hz,r⟩
 ·obtain⟨z,its,n,r,e⟩:=h.ok I.hok
  exact⟨its,r,⟨_,n,e,rfl,rfl,rfl⟩,z⟩
 ·refine⟨its.toList,r,⟨o,n,I.mQ a o hk,hc,hd,by simpa using hs⟩,?_⟩
  have e:=r.length
  simp only[Array.length_toList] at e
  omega
theorem Inv.tuple(I:Inv X pins σ H s)(h:nH X.K H a xs):∃its:List Value,Vals xs its∧IsTup s.heap a its.toArray∧xs.length≤sizeLine:=by
 rcases h with h | ⟨o,its,n,hk,hc,hs,hz,r⟩
 ·obtain⟨z,its,r,p⟩:=h.ok I.hok
  exact⟨its,r,p,z⟩
 ·refine⟨its.toList,r,⟨o,I.mQ a o hk,hc,n,by simpa using hs⟩,?_⟩
  have e:=r.length
  simp only[Array.length_toList] at e
  omega
theorem Inv.mj(I:Inv X pins σ H s)(h:lR X.K H a xs)(h':lR X.K H a ys):xs=ys:=by
 obtain⟨its,r,⟨o,n,e,_,_,d⟩,_⟩:=I.list h
 obtain⟨its',r',⟨o',n',e',_,_,d'⟩,_⟩:=I.list h'
 rw[e] at e';cases e'
 rw[d] at d'
 injection d' with d1 _
 have:its=its':=by simpa using congrArg Array.toList d1
 subst this
 exact r.inj r'
theorem Inv.nk(I:Inv X pins σ H s)(h:nH X.K H a xs)(h':nH X.K H a ys):xs=ys:=by
 obtain⟨its,r,⟨o,e,_,n,d⟩,_⟩:=I.tuple h
 obtain⟨its',r',⟨o',e',_,n',d'⟩,_⟩:=I.tuple h'
 rw[e] at e';cases e'
 rw[d] at d'
 injection d' with d1 _
 have:its=its':=by simpa using congrArg Array.toList d1
 subst this
 exact r.inj r'
end
noncomputable abbrev Cx.qD(X:Cx)(E:Value→Shared→Prop):Cx:={X with xe:=E}
noncomputable abbrev Cx.C3(X:Cx):Cx:=X.qD fun _ _=>False
theorem Cx.Ok.qD{X:Cx}(ok:X.Ok)(E:Value→Shared→Prop):(X.qD E).Ok:=
 ⟨ok.mod,ok.kind,ok.glob,ok.blt,ok.above,ok.inj,ok.has,ok.cab,ok.hd,ok.frames,ok.stk,ok.exf,ok.bs,ok.bsz,ok.noex,ok.exfs,ok.nT,ok.frf⟩
theorem Cx.Ok.jW{X:Cx}{E:Value→Shared→Prop}(ok:(X.qD E).Ok):X.Ok:=
 ⟨ok.mod,ok.kind,ok.glob,ok.blt,ok.above,ok.inj,ok.has,ok.cab,ok.hd,ok.frames,ok.stk,ok.exf,ok.bs,ok.bsz,ok.noex,ok.exfs,ok.nT,ok.frf⟩
section
variable {X:Cx} {pins:List (Addr × Obj)} {σ:St} {H:Hp} {s:Shared} {E:Value→Shared→Prop}
theorem Inv.qD(I:Inv X pins σ H s)(E:Value→Shared→Prop):Inv (X.qD E) pins σ H s:=⟨I.ok.qD E,I.os,I.bare,I.base,I.loc,I.cell,I.free,I.freeC,I.pin,I.hok,I.len⟩
theorem Inv.jW(I:Inv (X.qD E) pins σ H s):Inv X pins σ H s:=⟨I.ok.jW,I.os,I.bare,I.base,I.loc,I.cell,I.free,I.freeC,I.pin,I.hok,I.len⟩
theorem SP.jW{D:Ends}{f:Flow}{s':Shared}(h:SP (X.qD E) pins D f s'):SP X pins D f s':=by
 cases f with
 | next=>obtain⟨σ',H',I,q⟩:=h;exact⟨σ',H',I.jW,q⟩
 | brk=>obtain⟨σ',H',I,q⟩:=h;exact⟨σ',H',I.jW,q⟩
 | cont=>obtain⟨σ',H',I,q⟩:=h;exact⟨σ',H',I.jW,q⟩
 | ret u=>obtain⟨v,σ',H',I,r,q⟩:=h;exact⟨v,σ',H',I.jW,r,q⟩
theorem r9.C3{st:List Stmt}{t:TS}(h:r9 X.C3 st t):r9 X st t:=fun pins s σ H D I hw=>
 wpAny_mono (h pins s σ H D (I.qD _) hw) (fun _ _ q=>q.jW) fun _ _ z=>False.elim z
end
section
variable {X:Cx} {st:Stmt} {rest:List Stmt} {t u:TS} {e:Expr} {te:TE} {pos:Pos}
noncomputable def Hq:TS:=fun D σ H=>D.nx σ H
noncomputable def Ii(t u:TS):TS:=fun D σ H=>t {D with nx:=u D} σ H
theorem sr:r9 X [] Hq:=fun _ _ σ H _ I h=>wpAny_execs_nil ⟨σ,H,I,h⟩
theorem o9(h1:PS X st t)(h2:r9 X rest u):r9 X (st ::rest) (Ii t u):=by
 intro pins s σ H D I h
 refine wpAny_execs_cons (dw (h1 pins s σ H {D with nx:=u D} I h) fun f s1 q=>?_)
 cases f with
 | next=>
   obtain⟨σ',H',I',q⟩:=q
   exact h2 pins s1 σ' H' D I' q
 | ret v=>exact q
 | brk=>exact q
 | cont=>exact q
theorem sH(h1:PS X st t):r9 X [st] t:=by
 intro pins s σ H D I h
 refine wpAny_execs_cons (dw (h1 pins s σ H D I h) fun f s1 q=>?_)
 cases f with
 | next=>exact wpAny_execs_nil q
 | ret v=>exact q
 | brk=>exact q
 | cont=>exact q
noncomputable def I_:TS:=fun D σ H=>D.bk σ H
noncomputable def HF:TS:=fun D σ H=>D.ct σ H
theorem ub:PS X (.Continue pos) HF:=fun _ _ σ H _ I h=>wpAny_Continue ⟨σ,H,I,h⟩
theorem Inv.quiet{pins:List (Addr × Obj)}{σ:St}{H:Hp}{s:Shared}(I:Inv X pins σ H s):interactive X.env=false:=by simp [interactive,I.ok.kind]
noncomputable def Hh(te:TE):TS:=fun D σ H=>te σ H fun _ H1=>D.nx σ H1
theorem yd(he:PE X e te)(hs:swapsWith e none pos.line X.env=pure false:=by rfl):PS X (.Expr e pos) (Hh te):=by
 intro pins s σ H D I h
 exact wpAny_Expr_any (dw (he pins s σ H _ I h) fun v s1 ⟨x,H1,I1,r1,q1⟩=>⟨σ,H1,I1,q1⟩) I.quiet hs
noncomputable def JK(te:TE):TS:=fun D σ H=>te σ H D.rt
theorem zZ(he:PE X e te):PS X (.Return (some e) pos) (JK te):=by
 intro pins s σ H D I h
 exact wpAny_Return_some (dw (he pins s σ H _ I h) fun v s1 ⟨x,H1,I1,r1,q1⟩=>⟨x,σ,H1,I1,r1,q1⟩)
noncomputable def Kw:TS:=fun D _ H=>D.rt .bX H
noncomputable def JW(c:TT)(t u:TS):TS:=fun D σ H=>c σ H fun b H1=>if b=true then t D σ H1 else u D σ H1
theorem Ac{c:Expr}{a b:List Stmt}{tc:TT}(hc:PT X c tc)(ha:r9 X a t)(hb:r9 X b u):PS X (.If c a b pos) (JW tc t u):=by
 intro pins s σ H D I h
 refine wpAny_If (dw (hc pins s σ H _ I h) fun d s1 ⟨H1,I1,q1⟩=>?_)
 cases d with
 | true=>exact ha pins s1 σ H1 D I1 q1
 | false=>exact hb pins s1 σ H1 D I1 q1
noncomputable def JI:TS:=fun _ _ _=>False
end
noncomputable abbrev TG:=V→St→Hp→(St→Hp→Prop)→Prop
noncomputable abbrev As:=List V→St→Hp→(St→Hp→Prop)→Prop
noncomputable def PG(X:Cx)(target:Expr)(t:TG):Prop:=
 ∀(pins:List (Addr × Obj)) (s:Shared) (σ:St) (H:Hp) (v:V) (u:Value) (Q:St→Hp→Prop),Inv X pins σ H s→RelV v u→t v σ H Q→
  wpAny (model X.prog X.w) X.A (assign target X.env u) (fun _ s'=>∃σ' H',Inv X pins σ' H' s'∧Q σ' H') X.xe s
noncomputable def DG(X:Cx)(ts:List Expr)(t:As):Prop:=
 ∀(pins:List (Addr × Obj)) (s:Shared) (σ:St) (H:Hp) (vs:List V) (us:List Value) (Q:St→Hp→Prop),Inv X pins σ H s→Vals vs us→t vs σ H Q→
  wpAny (model X.prog X.w) X.A (assignInOrder ((assignEach ts X.env).map (·.2)) us) (fun _ s'=>∃σ' H',Inv X pins σ' H' s'∧Q σ' H') X.xe s
noncomputable abbrev Dk:=V→V→V→Hp→(Hp→Prop)→Prop
noncomputable def HX(X:Cx)(t:Dk):Prop:=
 ∀(pins:List (Addr × Obj)) (s:Shared) (σ:St) (H:Hp) (o i v:V) (ov iv u:Value) (Q:Hp→Prop),Inv X pins σ H s→RelV o ov→RelV i iv→RelV v u→t o i v H Q→
  wpAny (model X.prog X.w) X.A (setItem ov iv u) (fun _ s'=>∃H',Inv X pins σ H' s'∧Q H') X.xe s
noncomputable abbrev IA:=V→V→Hp→VK→Prop
noncomputable def L_(X:Cx)(op:Operator)(t:IA):Prop:=
 ∀(pins:List (Addr × Obj)) (s:Shared) (σ:St) (H:Hp) (x y:V) (v u:Value) (Q:VK),Inv X pins σ H s→RelV x v→RelV y u→t x y H Q→
  wpAny (model X.prog X.w) X.A (inplaceOp op v u) (EP X pins σ Q) X.xe s
section
variable {X:Cx} {pos:Pos}
noncomputable def o_(i:Nat):TG:=fun v σ H Q=>Q (σ.set i (some v)) H
theorem xC{i:Nat}{x:Str}(hN:X.N.Nodup)(hi:X.N[i]? =some x)(hx:Loc X.env.scope x)(hf:X.fn x=true∨X.env.scope.names.lookup x=some .local:=by first | exact .inl rfl | exact .inr rfl | assumption):PG X (.Name x pos) (o_ i):=by
 intro pins s σ H v u Q I r h
 exact wpAny_assign_Name (uW I hN hi hx r (fun s' I'=>⟨_,H,I',h⟩) hf)
noncomputable def IS:As:=fun vs σ H Q=>vs=[]∧Q σ H
noncomputable def Hg(t:TG)(u:As):As:=fun vs σ H Q=>∃v r,vs=v ::r∧t v σ H fun σ' H'=>u r σ' H' Q
theorem x5:DG X [] IS:=by
 intro pins s σ H vs us Q I r h
 obtain⟨e,h⟩:=h
 subst e
 cases r
 exact assignInOrder_nil ⟨σ,H,I,h⟩
theorem uX{e:Expr}{es:List Expr}{t:TG}{u:As}(h1:PG X e t)(h2:DG X es u)
 (hs:(assignEach (e ::es) X.env).map (·.2)=assign e X.env ::(assignEach es X.env).map (·.2):=by rfl):DG X (e ::es) (Hg t u):=by
 intro pins s σ H vs us Q I r h
 obtain⟨v,vr,e1,h⟩:=h
 subst e1
 cases r with
 | cons r rr=>
   rw[hs]
   refine assignInOrder_cons (dw (h1 pins s σ H _ _ _ I r h) fun _ s1 ⟨σ1,H1,I1,q1⟩=>?_)
   exact h2 pins s1 σ1 H1 _ _ Q I1 rr q1
noncomputable def IW(K:PySem.W.Frag)(n:Nat)(t:As):TG:=fun v σ H Q=>∃a xs,v= .ref a∧nH K H a xs∧xs.length=n∧t xs σ H Q
theorem Ar{es:List Expr}{k:Nat}{t:As}{n:Nat}(hc:X.calm=true)(h:DG X es t)
 (hn:(assignEach es X.env).length=n:=by rfl) (hst:(assignEach es X.env).findIdx? (·.1)=none:=by rfl):PG X (.Tuple es k pos) (IW X.K n t):=by
 intro pins s σ H v u Q I r hw
 obtain⟨a,xs,e1,hq,hl,hw⟩:=hw
 subst e1
 cases r
 obtain⟨its,rv,ht,hz⟩:=I.tuple hq
 refine assign_Tuple_tuple (I.ok.hd hc) ht (by simp [hn,←hl,rv.length]) hst fun h' hx=>?_
 have I1:Inv X pins σ H {s with heap:=h'}:=I.kept (t':=s.toks) fun b o e=>hx b o (Nat.ne_of_lt (Heap.lt_size e)) e
 exact h pins _ σ H xs _ Q I1 (by simpa using rv) hw
noncomputable def G2(to ti:TE)(t:Dk):TG:=fun v σ H Q=>to σ H fun o H1=>ti σ H1 fun i H2=>t o i v H2 fun H3=>Q σ H3
theorem sO{o i:Expr}{to ti:TE}{t:Dk}(ho:PE X o to)(hi:PE X i ti)(hs:HX X t)
 (ha:∀v,assign (.Subscript o i pos) X.env v=(do
   let ov ←holding [v] (eval o X.env)
   let iv ←holding [v,ov] (eval i X.env)
   standAt pos
   holding [v,ov,iv] (setItem ov iv v)
   release [v,ov,iv] []):=by intro _;rfl):PG X (.Subscript o i pos) (G2 to ti t):=by
 intro pins s σ H v u Q I r h
 rw[ha]
 refine wpAny_bind (wpAny_holding (dw (ho pins s σ H _ I h) fun ov s1 ⟨x,H1,I1,r1,q1⟩=>?_))
 refine wpAny_bind (wpAny_holding (dw (hi pins s1 σ H1 _ I1 q1) fun iv s2 ⟨y,H2,I2,r2,q2⟩=>?_))
 refine wpAny_bind (wpAny_standAt (wpAny_bind (wpAny_holding (dw (hs pins s2 σ H2 x y v ov iv u _ I2 r1 r2 r q2) fun _ s3 ⟨H3,I3,q3⟩=>?_))))
 exact wpAny_release ⟨σ,H3,I3,q3⟩
noncomputable def yR(te:TE)(g:TG):TS:=fun D σ H=>te σ H fun x H1=>g x σ H1 D.nx
theorem An{tg e:Expr}{te:TE}{g:TG}(he:PE X e te)(hg:PG X tg g)(hs:swapsWithSole [tg] e pos.line X.env=pure false:=by rfl)(hw:swappedStores [tg] e X.env=pure none:=by rfl)
 (h1:(assignEach [tg] X.env).map (·.2)=[assign tg X.env]:=by rfl):PS X (.Assign [tg] e pos) (yR te g):=by
 intro pins s σ H D I h
 refine wpAny_Assign_stores (dw (he pins s σ H _ I h) fun v s1 ⟨x,H1,I1,r1,q1⟩=>?_) hs hw
 rw[h1]
 exact dw (hg pins s1 σ H1 x v _ I1 r1 q1) fun _ s2 q=>q
theorem wR{i:Nat}{x:Str}{e:Expr}{te:TE}{pos':Pos}(hN:X.N.Nodup)(hi:X.N[i]? =some x)(hx:Loc X.env.scope x)(he:PE X e te)(hs:swapsWith e (some (.Name x pos')) pos.line X.env=pure false:=by rfl)(hf:X.fn x=true∨X.env.scope.names.lookup x=some .local:=by first | exact .inl rfl | exact .inr rfl | assumption) :
 PS X (.Assign [.Name x pos'] e pos) (yR te (o_ i)):=by
 intro pins s σ H D I h
 refine wpAny_Assign_Name (dw (he pins s σ H _ I h) fun v s1 ⟨y,H1,I1,r1,q1⟩=>?_) hs
 exact uW I1 hN hi hx r1 (fun s2 I2=>⟨_,H1,I2,q1⟩) hf
noncomputable def KD(i j:Nat)(ta:TA):TS:=fun D σ H=>ta σ H fun vs H1=>∃v w,vs=[v,w]∧D.nx ((σ.set i (some v)).set j (some w)) H1
noncomputable def K5(i:Nat)(te:TE)(ti:IA):TS:=fun D σ H=>∃x,σ[i]? =some (some x)∧te σ H fun y H1=>ti x y H1 fun z H2=>D.nx (σ.set i (some z)) H2
noncomputable def Kt(to ti te:TE)(tget:V→V→Hp→VK→Prop)(tip:IA)(tset:Dk):TS:=fun D σ H=>to σ H fun o H1=>ti σ H1 fun i H2=>tget o i H2 fun x H3=>te σ H3 fun y H4=>tip x y H4 fun z H5=>tset o i z H5 fun H6=>D.nx σ H6
noncomputable def Le(X:Cx)(t:V→V→Hp→VK→Prop):Prop:=
 ∀(pins:List (Addr × Obj)) (s:Shared) (σ:St) (H:Hp) (o i:V) (ov iv:Value) (Q:VK),Inv X pins σ H s→RelV o ov→RelV i iv→t o i H Q→
  wpAny (model X.prog X.w) X.A (getItem ov iv) (EP X pins σ Q) X.xe s
noncomputable def Mf(f:Int→Int→Int):IA:=fun x y H Q=>∃i j,x= .int i∧y= .int j∧Q (.int (f i j)) H
end
section
variable {X:Cx} {pos:Pos}
noncomputable def F5(c:TT)(tb:TS):TS:=fun D σ H=>∃W:Nat→St→Hp→Prop,(∃m,W m σ H)∧∀m σ H,W m σ H→
 c σ H fun b H1=>if b=true then ∃N:St→Hp→Prop,(∀σ' H',N σ' H'→∃m',m' < m∧W m' σ' H')∧tb {D with nx:=N,ct:=N,bk:=D.nx} σ H1 else D.nx σ H1
theorem Bo{c:Expr}{body:List Stmt}{tc:TT}{tb:TS}(hp:PassesOwn (model X.prog X.w) X.A X.env X.xe)(hc:PT X c tc)(hb:r9 X body tb):PS X (.While c body [] pos) (F5 tc tb):=by
 intro pins s σ H D I h
 obtain⟨W,⟨m0,w0⟩,turn⟩:=h
 refine wpAny_While (codeAny_whileLoop (fun n s'=>∃σ' H',Inv X pins σ' H' s'∧W n σ' H') ?_ m0 ⟨σ,H,I,w0⟩)
 rintro n s1 ⟨σ1,H1,I1,w1⟩
 refine wpAny_passesOwn hp (dw (hc pins s1 σ1 H1 _ I1 (turn n σ1 H1 w1)) fun b s2 ⟨H2,I2,q2⟩=>?_)
 cases b with
 | true=>
   obtain⟨N,hN,q2⟩:=q2
   rw[if_pos rfl]
   refine wpAny_passesOwn hp (dw (hb pins s2 σ1 H2 _ I2 q2) fun f s3 q3=>?_)
   cases f with
   | next=>
     obtain⟨σ3,H3,I3,n3⟩:=q3
     obtain⟨m',hm,w3⟩:=hN σ3 H3 n3
     exact⟨m',hm,σ3,H3,I3,w3⟩
   | cont=>
     obtain⟨σ3,H3,I3,n3⟩:=q3
     obtain⟨m',hm,w3⟩:=hN σ3 H3 n3
     exact⟨m',hm,σ3,H3,I3,w3⟩
   | brk=>exact q3
   | ret v=>exact q3
 | false=>
   rw[if_neg Bool.false_ne_true]
   exact wpAny_execs_nil ⟨σ1,H2,I2,q2⟩
end
structure It where
 go:Nat→Hp→Prop
 yld:Nat→Hp→V→Hp→Prop
 stop:Nat→Hp→Prop
noncomputable def n_(X:Cx)(pins:List (Addr × Obj))(H:Hp)(b:Addr):Prop:=
 H b=none∧b≠X.env.locals∧b ∉ X.fs∧(b∈X.ex∨X.s₀.heap.objs.size≤b)∧(∀x c,X.env.cells.lookup x=some c→c≠b)∧∀p∈X.pn++pins,p.1≠b
theorem Inv.n6{X:Cx}{pins:List (Addr × Obj)}{σ:St}{H H':Hp}{s:Shared}{b:Addr}(I:Inv X pins σ H s)(hb:s.heap.objs.size≤b)(hn:H' b=none):n_ X pins H' b:=by
 refine⟨hn,Nat.ne_of_gt (Nat.lt_of_lt_of_le I.lt hb),I.Jk hb, .inr (Nat.le_trans I.sz hb),fun x c e z=>?_,fun p hp z=>?_⟩
 ·obtain⟨v,q⟩:=I.cell x c e
  exact absurd (Nat.lt_of_lt_of_le q.lt (by rw[z];exact hb)) (Nat.lt_irrefl _)
 ·exact absurd (Nat.lt_of_lt_of_le (Heap.lt_size (I.pin p hp).1) (by rw[z];exact hb)) (Nat.lt_irrefl _)
structure Turn (P:Program) (w:World) (K:PySem.W.Frag) (tg:Expr) (J:It) (fp:List Addr) (it:Addr) (tn:Nat→Heap→Prop):Prop where
 mem:it∈fp
 obj:∀i h,tn i h→∀b∈fp,∃o,h.get? b=some o∧∀v,o.data≠ .cell v
 keep:∀i h h',tn i h→(∀b∈fp,∀o,h.get? b=some o→h'.get? b=some o)→tn i h'
 item:∀(X:Cx),X.prog=P→X.w=w→X.K=K→X.calm=true→∀(i:Nat) (pins:List (Addr × Obj)) (s:Shared) (σ:St) (H:Hp) (E:Value→Shared→Prop),Inv X pins σ H s→(∀b∈fp,n_ X pins H b)→tn i s.heap→J.go i H→
  wpAny (model P w) X.A (pyNext (.ref it)) (fun r s1=>∃u,r=some u∧
   wpAny (model P w) X.A (letOwnedTupleGo tg (.ref it) u) (fun _ s2=>∃x H',Inv X pins σ H' s2∧RelV x u∧J.yld i H x H'∧tn (i+1) s2.heap∧∀b∈fp,H' b=none) E s1) E s
 done:∀(X:Cx),X.prog=P→X.w=w→X.K=K→X.calm=true→∀(i:Nat) (pins:List (Addr × Obj)) (s:Shared) (σ:St) (H:Hp) (E:Value→Shared→Prop),Inv X pins σ H s→(∀b∈fp,n_ X pins H b)→tn i s.heap→J.stop i H→
  wpAny (model P w) X.A (pyNext (.ref it)) (fun r s1=>r=none∧Inv X pins σ H s1) E s
 self:∀(A:Around) (i:Nat) (s:Shared) (Q:Value→Shared→Prop) (E:Value→Shared→Prop),tn i s.heap→Q (.ref it) s→wpAny (model P w) A (pyIter (.ref it)) Q E s
noncomputable abbrev TI:=St→Hp→(It→Hp→Prop)→Prop
noncomputable def Kb(X:Cx)(pins:List (Addr × Obj))(σ:St)(tg:Expr)(R:It→Hp→Prop)(itv:Value)(s2:Shared):Prop:=
 ∃(it:Addr) (fp:List Addr) (tn:Nat→Heap→Prop) (J:It) (H':Hp),itv= .ref it∧Inv X pins σ H' s2∧Turn X.prog X.w X.K tg J fp it tn∧tn 0 s2.heap∧(∀b∈fp,n_ X pins H' b)∧R J H'
noncomputable def PI(X:Cx)(tg iter:Expr)(wi:TI):Prop:=
 ∀(pins:List (Addr × Obj)) (s:Shared) (σ:St) (H:Hp) (R:It→Hp→Prop),Inv X pins σ H s→wi σ H R→
  wpAny (model X.prog X.w) X.A (eval iter X.env) (fun v s1=>wpAny (model X.prog X.w) X.A (pyIter v) (Kb X pins σ tg R) X.xe s1) X.xe s
theorem ud{M:Model}{A:Around}{E:Value→Shared→Prop}{s:Shared}{tg:Expr}{it:Addr}{u:Value}{o:Obj}{n:String}{vs:Array Value}{Q:Unit→Shared→Prop}(ho:s.heap.get? it=some o)(hc:o.cls= .type n)(hd:o.data= .fields vs)
 (hn:["enumerate","zip","dict_itemiterator","dict_reverseitemiterator","odict_iterator","itertools.zip_longest","itertools.pairwise"].contains n=false) (hQ:Q () s):wpAny M A (letOwnedTupleGo tg (.ref it) u) Q E s:=by
 unfold letOwnedTupleGo
 cases tg <;> first
  | exact wpAny_pure hQ
  | (cases u <;> first
      | exact wpAny_pure hQ
      | (refine wpAny_bind (wpAny_load ho ?_)
         rw[hc,hd]
         show wpAny M A (if(["enumerate","zip","dict_itemiterator","dict_reverseitemiterator","odict_iterator","itertools.zip_longest","itertools.pairwise"].contains n && vs[0]? ==some (rawInt _))=true then _ else _) Q E s
         rw[if_neg (by intro h;rw [hn,Bool.false_and] at h;cases h)]
         exact wpAny_pure hQ))
noncomputable def JY(K:PySem.W.Frag)(a:Addr):It:=
 ⟨fun i H=>∃xs x,lR K H a xs∧xs[i]? =some x,fun i H x H'=>H'=H∧∀xs,lR K H a xs→xs[i]? =some x,fun i H=>∃xs,lR K H a xs∧xs.length≤i⟩
noncomputable def Kk(K:PySem.W.Frag)(a:Addr):It:=
 ⟨fun i H=>∃xs x,nH K H a xs∧xs[i]? =some x,fun i H x H'=>H'=H∧∀xs,nH K H a xs→xs[i]? =some x,fun i H=>∃xs,nH K H a xs∧xs.length≤i⟩
noncomputable def Ig(lo:Int)(n:Nat):It:=⟨fun i _=>i < n,fun i H x H'=>H'=H∧x= .int (lo+i),fun i _=>n≤i⟩
theorem rf{P:Program}{w:World}{K:PySem.W.Frag}{tg:Expr}(a it:Addr):Turn P w K tg (JY K a) [it] it (fun i h=>h.IsListIter it a i) where
 mem:=by simp
 obj:=fun i h st b hb=>by
  have e:b=it:=by simpa using hb
  subst e
  obtain⟨o,e,c,d⟩:=st
  exact⟨o,e,fun v z=>by rw[d] at z;cases z⟩
 keep:=fun i h h' st k=>st.at fun o e=>k it (by simp) o e
 item:=by
  intro X hP hw hK hc i pins s σ H E I hf st hg
  subst hP hw hK
  obtain⟨xs,x,hq,hx⟩:=hg
  obtain⟨its,rv,p,hz⟩:=I.list hq
  obtain⟨u,hu,ru⟩:=rv.get hx
  obtain⟨f0,f1,f2,f3,f4,f5⟩:=hf it (by simp)
  refine wpAny_pyNext_list_item st p.isList (x:=u) (by simpa using hu) fun h' st' sb=>?_
  have I1:Inv X pins σ H {s with heap:=h'}:=I.turned (t':=s.toks) (fun b o hb e=>(sb.2 b hb).trans e) f0 f1 f3 f4 f5
  obtain⟨o,e,c,d⟩:=id st'
  exact⟨u,rfl,ud (s:={s with heap:=h'}) e c d (by decide) ⟨x,H,I1,ru,⟨rfl,fun ys hy=>by rw[I.mj hy hq];exact hx⟩,st',fun b hb=>(hf b hb).1⟩⟩
 done:=by
  intro X hP hw hK hc i pins s σ H E I hf st hg
  subst hP hw hK
  obtain⟨xs,hq,hx⟩:=hg
  obtain⟨its,rv,p,hz⟩:=I.list hq
  obtain⟨f0,f1,f2,f3,f4,f5⟩:=hf it (by simp)
  have hl:=rv.length
  exact wpAny_pyNext_list_end (I.ok.hd hc) st p.isList (by simp;omega) fun h' eb=>⟨rfl,I.turned (t':=s.toks) (fun b o hb e=>eb b o hb e) f0 f1 f3 f4 f5⟩
 self:=fun _ _ _ _ _ st h=>wpAny_pyIter_listiter st h
theorem wA{P:Program}{w:World}{K:PySem.W.Frag}{tg:Expr}(a it:Addr):Turn P w K tg (Kk K a) [it] it (fun i h=>h.IsTupleIter it a i) where
 mem:=by simp
 obj:=fun i h st b hb=>by
  have e:b=it:=by simpa using hb
  subst e
  obtain⟨o,e,c,d⟩:=st
  exact⟨o,e,fun v z=>by rw[d] at z;cases z⟩
 keep:=fun i h h' st k=>st.at fun o e=>k it (by simp) o e
 item:=by
  intro X hP hw hK hc i pins s σ H E I hf st hg
  subst hP hw hK
  obtain⟨xs,x,hq,hx⟩:=hg
  obtain⟨its,rv,p,hz⟩:=I.tuple hq
  obtain⟨u,hu,ru⟩:=rv.get hx
  obtain⟨f0,f1,f2,f3,f4,f5⟩:=hf it (by simp)
  refine wpAny_pyNext_tuple_item st (show s.heap.IsTuple a its.toArray from p) (x:=u) (by simpa using hu) fun h' st' sb=>?_
  have I1:Inv X pins σ H {s with heap:=h'}:=I.turned (t':=s.toks) (fun b o hb e=>(sb.2 b hb).trans e) f0 f1 f3 f4 f5
  obtain⟨o,e,c,d⟩:=id st'
  exact⟨u,rfl,ud (s:={s with heap:=h'}) e c d (by decide) ⟨x,H,I1,ru,⟨rfl,fun ys hy=>by rw[I.nk hy hq];exact hx⟩,st',fun b hb=>(hf b hb).1⟩⟩
 done:=by
  intro X hP hw hK hc i pins s σ H E I hf st hg
  subst hP hw hK
  obtain⟨xs,hq,hx⟩:=hg
  obtain⟨its,rv,p,hz⟩:=I.tuple hq
  obtain⟨f0,f1,f2,f3,f4,f5⟩:=hf it (by simp)
  have hl:=rv.length
  exact wpAny_pyNext_tuple_end (I.ok.hd hc) st (show s.heap.IsTuple a its.toArray from p) (by simp;omega) fun h' eb=>⟨rfl,I.turned (t':=s.toks) (fun b o hb e=>eb b o hb e) f0 f1 f3 f4 f5⟩
 self:=fun _ _ _ _ _ st h=>wpAny_pyIter_tupleiter st h
theorem wo{P:Program}{w:World}{K:PySem.W.Frag}{tg:Expr}(it:Addr)(lo:Int)(n:Nat):Turn P w K tg (Ig lo n) [it] it (fun i h=>IsRangeIter h it (lo+(i:Nat)*1) ((n:Int) - (i:Nat)) 1) where
 mem:=by simp
 obj:=fun i h st b hb=>by
  have e:b=it:=by simpa using hb
  subst e
  exact⟨_,st,fun v z=>by
   have z':Data.fields _=Data.cell v:=z
   cases z'⟩
 keep:=fun i h h' st k=>k it (by simp) _ st
 item:=by
  intro X hP hw hK hc i pins s σ H E I hf st hg
  subst hP hw hK
  obtain⟨f0,f1,f2,f3,f4,f5⟩:=hf it (by simp)
  have W:=Walks.range (prog:=X.prog) (w:=X.w) (I.ok.hd hc) it lo 1 n
  refine W.item i s _ _ hg st fun v h' tk hv st' kk=>?_
  obtain⟨t,rfl⟩:=hv
  have I1:Inv X pins σ H {s with heap:=h',toks:=tk}:=I.turned (fun b o hb e=>kk b o (by simpa using hb) e) f0 f1 f3 f4 f5
  refine⟨_,rfl,ud (s:={s with heap:=h',toks:=tk}) (n:="range_iterator") st' rfl rfl (by decide) ⟨.int (lo+i),H,I1,⟨t,?_⟩,⟨rfl,rfl⟩,st',fun b hb=>(hf b hb).1⟩⟩
  rw[Int.mul_one]
 done:=by
  intro X hP hw hK hc i pins s σ H E I hf st hg
  subst hP hw hK
  obtain⟨f0,f1,f2,f3,f4,f5⟩:=hf it (by simp)
  exact wpAny_pyNext_range_end (I.ok.hd hc) st (by have:n≤i:=hg;omega) fun h' eb=>⟨rfl,I.turned (t':=s.toks) (fun b o hb e=>eb b o hb e) f0 f1 f3 f4 f5⟩
 self:=fun _ _ _ _ _ st h=>wpAny_pyIter_rangeiter st h
end L2
namespace L2
open PySem PySem.Spec PyProof.Rows
section
variable {X:Cx} {tg:Expr}
noncomputable def Kv(K:PySem.W.Frag)(tl:TE):TI:=fun σ H R=>tl σ H fun x H1=>∃a,x= .ref a∧(∃xs,lR K H1 a xs)∧R (JY K a) H1
noncomputable def Ju(K:PySem.W.Frag)(tl:TE):TI:=fun σ H R=>tl σ H fun x H1=>∃a,x= .ref a∧(∃xs,nH K H1 a xs)∧R (Kk K a) H1
theorem Af{pins:List (Addr × Obj)}{σ:St}{H:Hp}{s:Shared}{R:It→Hp→Prop}{E:Value→Shared→Prop}{lo hi:Int}{t u v:Tok}{tk:Nat}(I:Inv X pins σ H s)(h1: -(2 ^ 62)≤lo)(h2:lo < 2 ^ 62)(h3: -(2 ^ 62)≤hi)(h4:hi < 2 ^ 62)
 (q:R (Ig lo (hi - lo).toNat) H):wpAny (model X.prog X.w) X.A (pyIter (.ref s.heap.objs.size)) (Kb X pins σ tg R) E {s with heap:=s.heap.push {cls:= .type "range",data:= .fields #[.int lo t, .int hi u, .int 1 v]},toks:=tk}:=by
 refine wpAny_pyIter_range (IsRange.new ..) (small_one h1 h2 h3 h4) ?_
 have I1:Inv X pins σ H {s with heap:=s.heap.push {cls:= .type "range",data:= .fields #[.int lo t, .int hi u, .int 1 v]},toks:=tk}:=I.kept fun b o e=>Heap.get?_push_of_some _ e
 refine⟨(s.heap.push {cls:= .type "range",data:= .fields #[.int lo t, .int hi u, .int 1 v]}).objs.size,[(s.heap.push {cls:= .type "range",data:= .fields #[.int lo t, .int hi u, .int 1 v]}).objs.size],_,_,H,rfl,
  I1.kept (t':=tk) fun b o e=>Heap.get?_push_of_some _ e,wo _ lo (hi - lo).toNat,?_,fun b hb=>?_,q⟩
 ·have e1:lo+((0:Nat):Int)*1=lo:=by simp
  have e2:(((hi - lo).toNat:Nat):Int) - ((0:Nat):Int)=Builtin.Range.rangeSize lo hi 1:=by rw[rangeSize_one];split <;> omega
  show IsRangeIter _ _ (lo+((0:Nat):Int)*1) ((((hi - lo).toNat:Nat):Int) - ((0:Nat):Int)) 1
  rw[e1,e2]
  exact Heap.get?_push_size _ rfl
 ·have e:b=(s.heap.push {cls:= .type "range",data:= .fields #[.int lo t, .int hi u, .int 1 v]}).objs.size:=by simpa using hb
  subst e
  exact I1.n6 (Nat.le_refl _) (I1.hok.fresh (Nat.le_refl _))
noncomputable def uj(ta:TA):TI:=fun σ H R=>ta σ H fun vs H1=>∃j:Int,vs=[.int j]∧ -(2 ^ 62)≤j∧j < 2 ^ 62∧R (Ig 0 j.toNat) H1
noncomputable def J1(ta:TA):TI:=fun σ H R=>ta σ H fun vs H1=>∃i j:Int,vs=[.int i, .int j]∧(-(2 ^ 62)≤i∧i < 2 ^ 62∧ -(2 ^ 62)≤j∧j < 2 ^ 62)∧R (Ig i (j - i).toNat) H1
theorem qY{a:Expr}{ta:TA}{p pos:Pos}(hg:Gl X "range")(hm:X.mg "range"=none)(ha:PA X [a] ta)(hs:starEach [a] X.env=[(false,eval a X.env)]:=by rfl):PI X tg (.Call (.Name "range" p) [a] [] pos) (uj ta):=by
 intro pins s σ H R I h
 refine Call_ (iM I hg hm boot_range (PyProof.Rows.callWith_type1 (dw (ha pos pins s σ H _ I h) fun us s1 ⟨vs,H1,I1,r1,q1⟩=>?_) hs rfl))
 obtain⟨j,e,q1,q2,q⟩:=q1
 subst e
 cases r1 with
 | cons r rr=>
   cases rr
   obtain⟨t,rfl⟩:=r
   exact call_range_1 (Af I1 (by omega) (by omega) q1 q2 (by simpa using q))
noncomputable def IH(wi:TI)(g:TG)(tb:TS):TS:=fun D σ H=>wi σ H fun J H1=>∃W:Nat→Nat→St→Hp→Prop,(∃m,W 0 m σ H1)∧∀i m σ H,W i m σ H→
 (J.stop i H∧D.nx σ H)∨(J.go i H∧∃N:St→Hp→Prop,(∀σ' H',N σ' H'→∃m',m' < m∧W (i+1) m' σ' H')∧∀x H',J.yld i H x H'→g x σ H' fun σ2 H2=>tb {D with nx:=N,ct:=N,bk:=D.nx} σ2 H2)
noncomputable def lx(fp:List Addr)(h:Heap):List (Addr × Obj):=fp.filterMap fun b=>(h.get? b).map fun o=>(b,o)
theorem jo{fp:List Addr}{h:Heap}{b:Addr}{o:Obj}(hb:b∈fp)(e:h.get? b=some o):(b,o)∈lx fp h:=List.mem_filterMap.mpr ⟨b,hb,by rw[e];rfl⟩
theorem yC{fp:List Addr}{h:Heap}{p:Addr × Obj}(hp:p∈lx fp h):p.1∈fp∧h.get? p.1=some p.2:=by
 obtain⟨b,hb,e⟩:=List.mem_filterMap.mp hp
 cases q:h.get? b with
 | none=>rw [q] at e;cases e
 | some o=>
   rw[q] at e
   have e':(b,o)=p:=Option.some.inj e
   subst e'
   exact⟨hb,q⟩
theorem Inv.pinned{pins:List (Addr × Obj)}{σ:St}{H:Hp}{s:Shared}{fp:List Addr}(I:Inv X pins σ H s)(hf:∀b∈fp,n_ X pins H b)(ho:∀b∈fp,∃o,s.heap.get? b=some o∧∀v,o.data≠ .cell v):Inv X (pins++lx fp s.heap) σ H s:=
 I.xf fun p hp=>(List.mem_append.mp hp).elim (fun z=>I.pin p (List.mem_append_right _ z)) fun z=>by
  obtain⟨hb,e⟩:=yC z
  obtain⟨f0,f1,f2,_⟩:=hf p.1 hb
  obtain⟨o,e',d⟩:=ho p.1 hb
  rw[e] at e';cases e'
  exact⟨e,f0,f1,f2,d⟩
theorem Inv.mz{pins pl:List (Addr × Obj)}{σ:St}{H:Hp}{s:Shared}(I:Inv X (pins++pl) σ H s):Inv X pins σ H s:=I.xf fun p hp=>I.pin p (List.mem_append_right _ (List.mem_append_left _ hp))
theorem vS{iter:Expr}{body:List Stmt}{wi:TI}{g:TG}{tb:TS}{pos:Pos}(hp:PassesOwn (model X.prog X.w) X.A X.env X.xe)(hc:X.calm=true)(hi:PI X tg iter wi)(hg:PG X tg g)(hb:r9 X body tb)
 (hs:∀x,foldedSetIterable iter X.env x=pure x:=by intro _;rfl):PS X (.For tg iter body [] pos) (IH wi g tb):=by
 intro pins s σ H D I h
 refine wpAny_For (dw (hi pins s σ H _ I h) fun v s1 h1=>dw h1 fun itv s2 h2=>?_) hs
 obtain⟨it,fp,tn,J,H2,e,I2,T,st2,f2,W,⟨m0,w0⟩,turn⟩:=h2
 subst e
 have stat:∀{H':Hp},(∀b∈fp,H' b=none)→∀b∈fp,n_ X pins H' b:=fun hn b hb=>⟨hn b hb,(f2 b hb).2⟩
 refine codeAny_forLoop_any (fun n s'=>∃i σ' H',Inv X pins σ' H' s'∧tn i s'.heap∧(∀b∈fp,H' b=none)∧W i n σ' H') ?_ m0 ⟨0,σ,H2,I2,st2,fun b hb=>(f2 b hb).1,w0⟩
 rintro n s3 ⟨i,σ3,H3,I3,st3,fr3,w3⟩
 rcases turn i n σ3 H3 w3 with⟨stop,qn⟩ | ⟨go,N,hN,step⟩
 ·refine wpAny_passesOwn hp (dw (T.done X rfl rfl rfl hc i pins s3 σ3 H3 X.xe I3 (stat fr3) st3 stop) fun r s4 ⟨hr,I4⟩=>?_)
  subst hr
  exact wpAny_execs_nil ⟨σ3,H3,I4,qn⟩
 ·refine wpAny_passesOwn hp (dw (T.item X rfl rfl rfl hc i pins s3 σ3 H3 X.xe I3 (stat fr3) st3 go) fun r s4 ⟨u,hr,h4⟩=>?_)
  subst hr
  refine wpAny_passesOwn hp (dw h4 fun _ s5 ⟨x,H5,I5,r5,y5,st5,fr5⟩=>?_)
  have I5':=I5.pinned (stat fr5) (T.obj _ _ st5)
  refine wpAny_passesOwn hp (dw (hg _ s5 σ3 H5 x u _ I5' r5 (step x H5 y5)) fun _ s6 ⟨σ6,H6,I6,q6⟩=>?_)
  refine wpAny_passesOwn hp (dw (hb _ s6 σ6 H6 _ I6 q6) fun f s7 q7=>?_)
  have again:∀{σ7:St} {H7:Hp},Inv X (pins++lx fp s5.heap) σ7 H7 s7→N σ7 H7→∃m,m < n∧∃i σ' H',Inv X pins σ' H' s7∧tn i s7.heap∧(∀b∈fp,H' b=none)∧W i m σ' H':=fun {σ7 H7} I7 n7=>by
   obtain⟨m',hm,w7⟩:=hN σ7 H7 n7
   refine⟨m',hm,i+1,σ7,H7,I7.mz,T.keep _ _ _ st5 fun b hb o e=>(I7.pin (b,o) (List.mem_append_right _ (List.mem_append_right _ (jo hb e)))).1,fun b hb=>?_,w7⟩
   obtain⟨o,e,d⟩:=T.obj _ _ st5 b hb
   exact(I7.pin (b,o) (List.mem_append_right _ (List.mem_append_right _ (jo hb e)))).2.1
  cases f with
  | next=>obtain⟨σ7,H7,I7,n7⟩:=q7;exact again I7 n7
  | cont=>obtain⟨σ7,H7,I7,n7⟩:=q7;exact again I7 n7
  | brk=>obtain⟨σ7,H7,I7,q7⟩:=q7;exact⟨σ7,H7,I7.mz,q7⟩
  | ret v=>obtain⟨x7,σ7,H7,I7,r7,q7⟩:=q7;exact⟨x7,σ7,H7,I7.mz,r7,q7⟩
end
end L2
namespace L2
open PySem PySem.Spec PyProof.Rows
noncomputable abbrev R2:=V→V→Hp→VK→Prop
noncomputable def jG(X:Cx)(f:Value→Value→Sem Value)(r:R2):Prop:=
 ∀(pins:List (Addr × Obj)) (s:Shared) (σ:St) (H:Hp) (x y:V) (v u:Value) (Q:VK),Inv X pins σ H s→RelV x v→RelV y u→r x y H Q→
  wpAny (model X.prog X.w) X.A (f v u) (EP X pins σ Q) X.xe s
noncomputable def JO(X:Cx)(f:Value→Sem Value)(r:V→Hp→VK→Prop):Prop:=
 ∀(pins:List (Addr × Obj)) (s:Shared) (σ:St) (H:Hp) (x:V) (v:Value) (Q:VK),Inv X pins σ H s→RelV x v→r x H Q→
  wpAny (model X.prog X.w) X.A (f v) (EP X pins σ Q) X.xe s
noncomputable def jH(X:Cx)(f:Value)(r:List V→Hp→VK→Prop):Prop:=
 ∀(pins:List (Addr × Obj)) (s:Shared) (σ:St) (H:Hp) (xs:List V) (us:List Value) (Q:VK),Inv X pins σ H s→Vals xs us→r xs H Q→
  wpAny (model X.prog X.w) X.A (call f us) (EP X pins σ Q) X.xe s
noncomputable def JP(X:Cx)(r:V→Hp→(Bool→Hp→Prop)→Prop):Prop:=
 ∀(pins:List (Addr × Obj)) (s:Shared) (σ:St) (H:Hp) (x:V) (v:Value) (Q:Bool→Hp→Prop),Inv X pins σ H s→RelV x v→r x H Q→
  wpAny (model X.prog X.w) X.A (truthy v) (TP X pins σ Q) X.xe s
noncomputable def GL(r:R2)(ta tb:TE):TE:=fun σ H Q=>ta σ H fun x H1=>tb σ H1 fun y H2=>r x y H2 Q
noncomputable def K1(r:V→Hp→VK→Prop)(ta:TE):TE:=fun σ H Q=>ta σ H fun x H1=>r x H1 Q
noncomputable def rI(C:Int→Int→Prop)(g:Int→Int→V):R2:=fun x y H Q=>∃i j,x= .int i∧y= .int j∧C i j∧Q (g i j) H
noncomputable def zp(g:Int→Int→V):R2:=fun x y H Q=>∃i j,x= .int i∧y= .int j∧Q (g i j) H
noncomputable def rU(g:Int→V):V→Hp→VK→Prop:=fun x H Q=>∃i,x= .int i∧Q (g i) H
section
variable {X:Cx} {a b c:Expr} {ta tb tc:TE} {pos:Pos}
theorem F0(ha:PE X a ta)(hb:PE X b tb){pins:List (Addr × Obj)}{s:Shared}{σ:St}{H:Hp}{R:V→V→Hp→Prop}(I:Inv X pins σ H s)
 (h:ta σ H fun x H1=>tb σ H1 fun y H2=>R x y H2) {Q:Value→Shared→Prop} {f:Value→Value→Sem Value}
 (hf:∀v u s2 x y H2,Inv X pins σ H2 s2→RelV x v→RelV y u→R x y H2→wpAny (model X.prog X.w) X.A (f v u) Q X.xe s2) :
 wpAny (model X.prog X.w) X.A (eval a X.env) (fun v s₁=>wpAny (model X.prog X.w) X.A (eval b X.env) (fun u s₂=>wpAny (model X.prog X.w) X.A (f v u) Q X.xe s₂) X.xe s₁) X.xe s:=by
 refine dw (ha pins s σ H _ I h) fun v s1 ⟨x,H1,I1,r1,q1⟩=>?_
 refine dw (hb pins s1 σ H1 _ I1 q1) fun u s2 ⟨y,H2,I2,r2,q2⟩=>?_
 exact hf v u s2 x y H2 I2 r1 r2 q2
theorem Ap{op:Operator}{r:R2}(ho:jG X (binaryOp op) r)(ha:PE X a ta)(hb:PE X b tb):PE X (.BinOp a op b pos) (GL r ta tb):=by
 intro pins s σ H Q I h
 exact wpAny_BinOp (F0 ha hb I h fun v u s2 x y H2 I2 rx ry q=>ho pins s2 σ H2 x y v u Q I2 rx ry q)
theorem Ih{op:UnaryOp}{r:V→Hp→VK→Prop}(ho:JO X (unaryOp op) r)(ha:PE X a ta):PE X (.UnaryOp op a pos) (K1 r ta):=by
 intro pins s σ H Q I h
 exact UnaryOp_ (dw (ha pins s σ H _ I h) fun v s1 ⟨x,H1,I1,r1,q1⟩=>ho pins s1 σ H1 x v Q I1 r1 q1)
theorem Hx{f:Value→Value→Sem Value}{C:Int→Int→Prop}{g:Int→Int→Int}
 (rule:∀(i j:Int) (t u:Tok) (s:Shared) (Q:Value→Shared→Prop) (E:Value→Shared→Prop),C i j→Q (.int (g i j) s.toks) {s with toks:=s.toks+1}→wpAny (model X.prog X.w) X.A (f (.int i t) (.int j u)) Q E s) :
 jG X f (rI C fun i j=> .int (g i j)):=by
 intro pins s σ H x y v u Q I rx ry h
 obtain⟨i,j,rfl,rfl,hc,q⟩:=h
 obtain⟨t,rfl⟩:=rx
 obtain⟨t',rfl⟩:=ry
 exact rule i j t t' s _ _ hc ⟨.int (g i j),H,I.tok _,⟨_,rfl⟩,q⟩
theorem BI{f:Value→Value→Sem Value}{g:Int→Int→Int}
 (rule:∀(i j:Int) (t u:Tok) (s:Shared) (Q:Value→Shared→Prop) (E:Value→Shared→Prop),Q (.int (g i j) s.toks) {s with toks:=s.toks+1}→wpAny (model X.prog X.w) X.A (f (.int i t) (.int j u)) Q E s) :
 jG X f (zp fun i j=> .int (g i j)):=by
 intro pins s σ H x y v u Q I rx ry h
 obtain⟨i,j,rfl,rfl,q⟩:=h
 obtain⟨t,rfl⟩:=rx
 obtain⟨t',rfl⟩:=ry
 exact rule i j t t' s _ _ ⟨.int (g i j),H,I.tok _,⟨_,rfl⟩,q⟩
theorem EV{f:Value→Value→Sem Value}{g:Int→Int→Bool}
 (rule:∀(i j:Int) (t u:Tok) (s:Shared) (Q:Value→Shared→Prop) (E:Value→Shared→Prop),Q (.bool (g i j)) s→wpAny (model X.prog X.w) X.A (f (.int i t) (.int j u)) Q E s) :
 jG X f (zp fun i j=> .bl (g i j)):=by
 intro pins s σ H x y v u Q I rx ry h
 obtain⟨i,j,rfl,rfl,q⟩:=h
 obtain⟨t,rfl⟩:=rx
 obtain⟨t',rfl⟩:=ry
 exact rule i j t t' s _ _ ⟨.bl (g i j),H,I,rfl,q⟩
noncomputable def IZ(i j:Int):Prop:=0 < j∧j < 1073741824
noncomputable def J9(i j:Int):Prop:=j≠0∧j.natAbs < 1073741824
noncomputable def G_(i j:Int):Prop:=0≤j∧j≤1000000∧i.natAbs < 2 ^ 64
noncomputable def F4(i j:Int):Prop:=(-(2 ^ 64) < i∧i < 2 ^ 64)∨(-(2 ^ 64) < j∧j < 2 ^ 64)
theorem F4.ok{i j:Int}(h:F4 i j):IntMulOk i j:=by
 rcases h with⟨h1,h2⟩ | ⟨h1,h2⟩
 ·exact .of_left (intBits_le_64 h1 h2)
 ·exact .of_right (intBits_le_64 h1 h2)
theorem Gb:jG X (binaryOp .Add) (zp fun i j=> .int (i+j)):=BI fun _ _ _ _ _ _ _ q=>add_int q
theorem F9:jG X (binaryOp .Sub) (zp fun i j=> .int (i - j)):=BI fun _ _ _ _ _ _ _ q=>sub_int q
theorem GF:jG X (binaryOp .Mult) (rI F4 fun i j=> .int (i*j)):=Hx fun _ _ _ _ _ _ _ hc q=>mul_int q hc.ok
theorem Dz:jG X (binaryOp .FloorDiv) (rI IZ fun i j=> .int (i / j)):=Hx fun i j _ _ _ _ _ hc q=>by
 have h1:(0:Int) < j:=hc.1
 have h2:j < 1073741824:=hc.2
 exact floordiv_int (by omega) (by rw[Int.fdiv_eq_ediv_of_nonneg i (by omega)];exact q) (.inl (PyProof.noPylong_small (by omega)))
theorem Fc:jG X (binaryOp .Mod) (rI (fun _ j=>0 < j) fun i j=> .int (i % j)):=Hx fun i j _ _ _ _ _ hc q=>by
 have h1:(0:Int) < j:=hc
 exact mod_int' (by omega) (by rw[Int.fmod_eq_emod_of_nonneg i (by omega)];exact q)
theorem EO:jG X (binaryOp .Pow) (rI G_ fun i j=> .int (i ^ j.toNat)):=Hx fun _ _ _ _ _ _ _ hc q=>pow_int_small hc.1 hc.2.1 hc.2.2 q
theorem Fh:jG X (binaryOp .LShift) (rI G_ fun i j=> .int (i*2 ^ j.toNat)):=Hx fun _ _ _ _ _ _ _ hc q=>lshift_int_small hc.1 hc.2.1 hc.2.2 q
theorem E5:jG X (binaryOp .BitAnd) (zp fun i j=> .int (Builtin.bitAnd i j)):=BI fun _ _ _ _ _ _ _ q=>and_int q
theorem G4:jG X (binaryOp .BitOr) (zp fun i j=> .int (Builtin.bitOr i j)):=BI fun _ _ _ _ _ _ _ q=>or_int q
theorem Gi:jG X (binaryOp .BitXor) (zp fun i j=> .int (Builtin.bitXor i j)):=BI fun _ _ _ _ _ _ _ q=>xor_int q
theorem LU{f:Value→Sem Value}{g:Int→Int}
 (rule:∀(i:Int) (t:Tok) (s:Shared) (Q:Value→Shared→Prop) (E:Value→Shared→Prop),Q (.int (g i) s.toks) {s with toks:=s.toks+1}→wpAny (model X.prog X.w) X.A (f (.int i t)) Q E s) :
 JO X f (rU fun i=> .int (g i)):=by
 intro pins s σ H x v Q I rx h
 obtain⟨i,rfl,q⟩:=h
 obtain⟨t,rfl⟩:=rx
 exact rule i t s _ _ ⟨.int (g i),H,I.tok _,⟨_,rfl⟩,q⟩
theorem Ft:JO X (unaryOp .USub) (rU fun i=> .int (-i)):=LU fun _ _ _ _ _ q=>neg_int q
end
noncomputable def G8:V→V→Bool
 | .bX, .bX=>true | .bX, .int _=>true | .int _, .bX=>true | .bX, .bl _=>true | .bl _, .bX=>true | .bX, .str _=>true | .str _, .bX=>true
 | .int _, .int _=>true | .bl _, .bl _=>true | .str _, .str _=>true | .byt _, .byt _=>true
 | .int _, .str _=>true | .str _, .int _=>true | .bl _, .str _=>true | .str _, .bl _=>true
 | _,_=>false
noncomputable def LN:R2:=fun x y H Q=>G8 x y=true∧Q (.bl (decide (x=y))) H
noncomputable def Lc:R2:=fun x y H Q=>G8 x y=true∧Q (.bl (!decide (x=y))) H
theorem xG{i j:Int}:decide (V.int i=V.int j)=(i==j):=by
 rw[Bool.eq_iff_iff]
 simp
theorem BG{i j:Bool}:decide (V.bl i=V.bl j)=(i==j):=by
 rw[Bool.eq_iff_iff]
 simp
theorem yf{i j:Str}:decide (V.str i=V.str j)=(i==j):=by
 rw[Bool.eq_iff_iff]
 simp
theorem yc{i j:Array UInt8}:decide (V.byt i=V.byt j)=(i.toList==j.toList):=by
 rw[Bool.eq_iff_iff]
 cases i
 cases j
 simp
section
variable {X:Cx} {a b c:Expr} {ta tb tc:TE} {pos:Pos}
theorem bB{pins:List (Addr × Obj)}{σ:St}{H:Hp}{s:Shared}{Q:VK}{k k':Bool}(I:Inv X pins σ H s)(q:Q (.bl k) H)(e:k=k'):EP X pins σ Q (.bool k') s:=by
 subst e
 exact⟨.bl k,H,I,rfl,q⟩
theorem Bc:jG X (compareOp .Eq) LN:=by
 intro pins s σ H x y v u Q I rx ry h
 obtain⟨hs,q⟩:=h
 cases x with
 | bX=>
   cases rx
   cases y with
   | bX=>cases ry;exact PySem.EqNone.eq_none_none (bB I q (by simp))
   | bl j=>cases ry;exact PySem.EqNone.eq_none_bool (bB I q (by simp))
   | int j=>obtain⟨t',rfl⟩:=ry;exact PySem.EqNone.eq_none_int (bB I q (by simp))
   | str j=>obtain⟨t',rfl⟩:=ry;exact PySem.EqNone.eq_none_str (bB I q (by simp))
   | _=>exact absurd (show false=true from hs) Bool.false_ne_true
 | bl i=>
   cases rx
   cases y with
   | bX=>cases ry;exact PySem.EqNone.eq_bool_none (bB I q (by simp))
   | bl j=>cases ry;exact eq_bool (bB I q BG)
   | str j=>obtain⟨t',rfl⟩:=ry;exact PySem.EqMixed.eq_bool_str (bB I q (by simp))
   | _=>exact absurd (show false=true from hs) Bool.false_ne_true
 | int i=>
   obtain⟨t,rfl⟩:=rx
   cases y with
   | bX=>cases ry;exact PySem.EqNone.eq_int_none (bB I q (by simp))
   | int j=>obtain⟨t',rfl⟩:=ry;exact eq_int (bB I q xG)
   | str j=>obtain⟨t',rfl⟩:=ry;exact PySem.EqMixed.eq_int_str (bB I q (by simp))
   | _=>exact absurd (show false=true from hs) Bool.false_ne_true
 | str i=>
   obtain⟨t,rfl⟩:=rx
   cases y with
   | bX=>cases ry;exact PySem.EqNone.eq_str_none (bB I q (by simp))
   | bl j=>cases ry;exact PySem.EqMixed.eq_str_bool (bB I q (by simp))
   | int j=>obtain⟨t',rfl⟩:=ry;exact PySem.EqMixed.eq_str_int (bB I q (by simp))
   | str j=>obtain⟨t',rfl⟩:=ry;exact eq_str (bB I q yf)
   | _=>exact absurd (show false=true from hs) Bool.false_ne_true
 | byt i=>
   obtain⟨t,rfl⟩:=rx
   cases y with
   | byt j=>obtain⟨t',rfl⟩:=ry;exact PySem.W.eq_bytes (bB I q yc)
   | _=>exact absurd (show false=true from hs) Bool.false_ne_true
 | _=>cases y <;> exact absurd (show false=true from hs) Bool.false_ne_true
theorem Ak:jG X (compareOp .NotEq) Lc:=by
 intro pins s σ H x y v u Q I rx ry h
 obtain⟨hs,q⟩:=h
 cases x with
 | bX=>
   cases rx
   cases y with
   | bX=>cases ry;exact PySem.EqNone.ne_none_none (bB I q (by simp))
   | bl j=>cases ry;exact PySem.EqNone.ne_none_bool (bB I q (by simp))
   | int j=>obtain⟨t',rfl⟩:=ry;exact PySem.EqNone.ne_none_int (bB I q (by simp))
   | str j=>obtain⟨t',rfl⟩:=ry;exact PySem.EqNone.ne_none_str (bB I q (by simp))
   | _=>exact absurd (show false=true from hs) Bool.false_ne_true
 | bl i=>
   cases rx
   cases y with
   | bX=>cases ry;exact PySem.EqNone.ne_bool_none (bB I q (by simp))
   | bl j=>cases ry;exact ne_bool (bB I q (congrArg not BG))
   | str j=>obtain⟨t',rfl⟩:=ry;exact PySem.EqMixed.ne_bool_str (bB I q (by simp))
   | _=>exact absurd (show false=true from hs) Bool.false_ne_true
 | int i=>
   obtain⟨t,rfl⟩:=rx
   cases y with
   | bX=>cases ry;exact PySem.EqNone.ne_int_none (bB I q (by simp))
   | int j=>obtain⟨t',rfl⟩:=ry;exact ne_int (bB I q (congrArg not xG))
   | str j=>obtain⟨t',rfl⟩:=ry;exact PySem.EqMixed.ne_int_str (bB I q (by simp))
   | _=>exact absurd (show false=true from hs) Bool.false_ne_true
 | str i=>
   obtain⟨t,rfl⟩:=rx
   cases y with
   | bX=>cases ry;exact PySem.EqNone.ne_str_none (bB I q (by simp))
   | bl j=>cases ry;exact PySem.EqMixed.ne_str_bool (bB I q (by simp))
   | int j=>obtain⟨t',rfl⟩:=ry;exact PySem.EqMixed.ne_str_int (bB I q (by simp))
   | str j=>obtain⟨t',rfl⟩:=ry;exact ne_str (bB I q (congrArg not yf))
   | _=>exact absurd (show false=true from hs) Bool.false_ne_true
 | byt i=>
   obtain⟨t,rfl⟩:=rx
   cases y with
   | byt j=>obtain⟨t',rfl⟩:=ry;exact PySem.W.ne_bytes (bB I q (congrArg not yc))
   | _=>exact absurd (show false=true from hs) Bool.false_ne_true
 | _=>cases y <;> exact absurd (show false=true from hs) Bool.false_ne_true
theorem GV:jG X (compareOp .LtE) (zp fun i j=> .bl (decide (i≤j))):=EV fun _ _ _ _ _ _ _ q=>le_int q
theorem HY:jG X (compareOp .Gt) (zp fun i j=> .bl (decide (j < i))):=EV fun _ _ _ _ _ _ _ q=>gt_int q
theorem Ij:jG X (compareOp .GtE) (zp fun i j=> .bl (decide (j≤i))):=EV fun _ _ _ _ _ _ _ q=>ge_int q
theorem yu:jG X (compareOp .In) (fun x y H Q=>∃i j,x= .str i∧y= .str j∧Q (.bl (!(Builtin.Str.occurrences j i 0 j.length 1).isEmpty)) H):=by
 intro pins s σ H x y v u Q I rx ry h
 obtain⟨i,j,rfl,rfl,q⟩:=h
 obtain⟨t,rfl⟩:=rx
 obtain⟨t',rfl⟩:=ry
 exact in_str (bB I q rfl)
theorem Fs:jG X (compareOp .Is) (fun x y H Q=>y= .bX∧Q (.bl (decide (x= .bX))) H):=by
 intro pins s σ H x y v u Q I rx ry h
 obtain⟨rfl,q⟩:=h
 cases ry
 refine is_none_gen (bB I q ?_)
 cases x <;> first
  | (cases rx;rfl)
  | (obtain⟨t,rfl⟩:=rx;rfl)
theorem CP:jG X (compareOp .IsNot) (fun x y H Q=>y= .bX∧Q (.bl (!decide (x= .bX))) H):=by
 intro pins s σ H x y v u Q I rx ry h
 obtain⟨rfl,q⟩:=h
 cases ry
 refine isnot_none_gen (bB I q ?_)
 cases x <;> first
  | (cases rx;rfl)
  | (obtain⟨t,rfl⟩:=rx;rfl)
theorem tG:jG X (compareOp .NotIn) (fun x y H Q=>∃i j,x= .str i∧y= .str j∧Q (.bl (!(!(Builtin.Str.occurrences j i 0 j.length 1).isEmpty))) H):=by
 intro pins s σ H x y v u Q I rx ry h
 obtain⟨i,j,rfl,rfl,q⟩:=h
 obtain⟨t,rfl⟩:=rx
 obtain⟨t',rfl⟩:=ry
 exact notIn_str (bB I q rfl)
noncomputable def isObj:HO→Bool
 | .lst _=>true
 | .ins _ _ _=>true
 | _=>false
theorem cJ(b:Expr){op:CmpOp}(h:op≠ .In:=by decide)(h2:op≠ .NotIn:=by decide):behindInMarks op b=false:=by
 have e1:(op==CmpOp.In)=false:=by cases op <;> first | rfl | exact absurd rfl h
 have e2:(op==CmpOp.NotIn)=false:=by cases op <;> first | rfl | exact absurd rfl h2
 cases b <;> simp [behindInMarks,e1,e2]
theorem xD{op:CmpOp}{r:R2}(ho:jG X (compareOp op) r)(ha:PE X a ta)(hb:PE X b tb)(hm:behindInMarks op b=false):PE X (.Compare a [op] [b] pos) (GL r ta tb):=by
 intro pins s σ H Q I h
 exact wpAny_Compare1 (F0 ha hb I h fun v u s2 x y H2 I2 rx ry q=>ho pins s2 σ H2 x y v u Q I2 rx ry q) hm
noncomputable def HJ(t:TE):TT:=fun σ H Q=>t σ H fun x H'=>∃k,x= .bl k∧Q k H'
theorem x9{op:CmpOp}{r:R2}(ho:jG X (compareOp op) r)(ha:PE X a ta)(hb:PE X b tb)(hm:behindInMarks op b=false):PT X (.Compare a [op] [b] pos) (HJ (GL r ta tb)):=by
 intro pins s σ H Q I h
 refine wpAny_isTrue_Compare1 (dw (ha pins s σ H _ I h) fun v s1 ⟨x,H1,I1,r1,q1⟩=>dw (hb pins s1 σ H1 _ I1 q1) fun u s2 ⟨y,H2,I2,r2,q2⟩=>
  dw (ho pins s2 σ H2 x y v u _ I2 r1 r2 q2) fun c s3 ⟨z,H3,I3,r3,k,e,q3⟩=>?_) hm
 subst e
 cases r3
 exact wpAny_truthy_bool ⟨H3,I3,q3⟩
noncomputable def Ja(r r':R2)(ta tb tc:TE):TE:=fun σ H Q=>ta σ H fun x H1=>tb σ H1 fun y H2=>r x y H2 fun z H3=>∃k,z= .bl k∧
 (if k=true then tc σ H3 fun w' H4=>r' y w' H4 Q else Q (.bl false) H3)
noncomputable def Cs(K:PySem.W.Frag)(x:V)(H:Hp)(k:Bool):Prop:=
 match x with
 | .bX=>k=false
 | .bl b=>k=b
 | .int i=>k=(i !=0)
 | .str y=>y.length≤sizeLine∧k=((y.length:Int) !=0)
 | .byt y=>y.size≤sizeLine∧k=((y.size:Int) !=0)
 | .ref p=>(∃xs,lR K H p xs∧k=!xs.isEmpty)∨(∃xs,nH K H p xs∧k=!xs.isEmpty)∨∃kvs,H p=some (.dK kvs)∧k=!kvs.isEmpty
 | _=>False
theorem wL{κ:Type}{kvs:List (κ × V)}{vs:List (κ × Value)}(r:KV kvs vs):(!vs.isEmpty)=!kvs.isEmpty:=by
 cases r <;> rfl
theorem pV{xs:List V}{its:List Value}(r:Vals xs its):(!its.toArray.isEmpty)=!xs.isEmpty:=by
 cases r <;> simp
theorem mR:(sizeLine:Nat) < 2 ^ 63:=by rw[sizeLine_eq];decide
theorem E_:JP X (fun x H Q=>∃k,Cs X.K x H k∧Q k H):=by
 intro pins s σ H x v Q I rx h
 obtain⟨k,e,q⟩:=h
 have hl:=mR
 have hs:sizeLine=16777216:=sizeLine_eq
 cases x with
 | bX=>
   cases rx
   have e':k=false:=e
   subst e'
   exact truthy_none ⟨H,I,q⟩
 | bl b=>
   cases rx
   have e':k=b:=e
   subst e'
   exact wpAny_truthy_bool ⟨H,I,q⟩
 | int i=>
   obtain⟨t,rfl⟩:=rx
   have e':k=(i !=0):=e
   subst e'
   exact PySem.P.truthy_int ⟨H,I,q⟩
 | str y=>
   obtain⟨t,rfl⟩:=rx
   obtain⟨hy,e'⟩:y.length≤sizeLine∧k=((y.length:Int) !=0):=e
   subst e'
   exact PySem.P.truthy_str (by omega) ⟨H,I.tok _,q⟩
 | byt y=>
   obtain⟨t,rfl⟩:=rx
   obtain⟨hy,e'⟩:y.size≤sizeLine∧k=((y.size:Int) !=0):=e
   subst e'
   exact PySem.W.truthy_bytes (by omega) ⟨H,I.tok _,q⟩
 | ref p=>
   cases rx
   have e':(∃xs,lR X.K H p xs∧k=!xs.isEmpty)∨(∃xs,nH X.K H p xs∧k=!xs.isEmpty)∨∃kvs,H p=some (.dK kvs)∧k=!kvs.isEmpty:=e
   rcases e' with⟨xs,hx,e'⟩ | ⟨xs,hx,e'⟩ | ⟨kvs,hx,e'⟩
   ·subst e'
    obtain⟨its,r,pl,hz⟩:=I.list hx
    have hlen:=r.length
    exact wpAny_truthy_list pl.isList (by simp only[List.size_toArray];omega) ⟨H,I.tok _,by rw[pV r];exact q⟩
   ·subst e'
    obtain⟨its,r,pl,hz⟩:=I.tuple hx
    have hlen:=r.length
    exact truthy_tuple pl (by simp only[List.size_toArray];omega) ⟨H,I.tok _,by rw[pV r];exact q⟩
   ·subst e'
    obtain⟨hz,hS,vs,r,m⟩:kvs.length≤sizeLine∧(p==sysModules)=false∧∃vs,KV kvs vs∧s.heap.DictOf (dc X.prog X.w) p vs:=I.hok p _ hx
    have hlen:kvs.length=vs.length:=Paired.length r
    exact wpAny_truthy_dict hS m (by omega) ⟨H,I.tok _,by rw[wL r];exact q⟩
 | _=>exact(show False from e).elim
theorem uP(ha:PE X a ta)(he:∀whole,isTrue a X.env whole=(do let v ←whole;standAt a.pos;holding [v] (truthy v))) :
 PT X a (fun σ H Q=>ta σ H fun x H'=>∃k,Cs X.K x H' k∧Q k H'):=by
 intro pins s σ H Q I h
 exact isTrue_plain (dw (ha pins s σ H _ I h) fun v s1 ⟨x,H1,I1,r1,q1⟩=>E_ pins s1 σ H1 x v Q I1 r1 q1) (he _)
theorem vW:jG X (binaryOp .Add) (fun x y H Q=>∃i j,x= .str i∧y= .str j∧i.length+j.length≤sizeLine∧Q (.str (i++j)) H):=by
 intro pins s σ H x y v u Q I rx ry h
 obtain⟨i,j,rfl,rfl,hz,q⟩:=h
 obtain⟨t,rfl⟩:=rx
 obtain⟨t',rfl⟩:=ry
 exact add_str (fun t' tk=>⟨.str (i++j),H,I.tok _,⟨_,rfl⟩,q⟩) hz
noncomputable def HE(b:Expr):Prop:=∀o i,subscripted b false o i=operate [o,i] (getItem o i)
theorem vals1{x:V}{us:List Value}(r:Vals [x] us):∃u,us=[u]∧RelV x u:=by
 cases r with
 | cons r1 r2=>cases r2;exact⟨_,rfl,r1⟩
theorem vals2{x y:V}{us:List Value}(r:Vals [x,y] us):∃u w',us=[u,w']∧RelV x u∧RelV y w':=by
 cases r with
 | cons r1 r2=>
   cases r2 with
   | cons r3 r4=>cases r4;exact⟨_,_,rfl,r1,r3⟩
theorem yT(hc:X.calm=true):jH X (.builtin "min") (fun xs H Q=>∃i j,xs=[.int i, .int j]∧Q (.int (if j < i then j else i)) H):=by
 intro pins s σ H xs us Q I r h
 obtain⟨i,j,rfl,q⟩:=h
 obtain⟨u,w',rfl,⟨t,rfl⟩,⟨t',rfl⟩⟩:=vals2 r
 refine min_two_ints (I.ok.hd hc) fun h' tk k=>⟨_,H,I.kept k,?_,q⟩
 by_cases hj:j < i
 ·rw[if_pos hj,if_pos hj];exact⟨_,rfl⟩
 ·rw[if_neg hj,if_neg hj];exact⟨_,rfl⟩
theorem yr:jH X (.type "int") (fun xs H Q=>(∃i,xs=[.int i]∧Q (.int i) H)∨∃k,xs=[.bl k]∧Q (.int (if k then 1 else 0)) H):=by
 intro pins s σ H xs us Q I r h
 rcases h with⟨i,rfl,q⟩ | ⟨k,rfl,q⟩
 ·obtain⟨u,rfl,t,rfl⟩:=vals1 r
  exact call_int_int ⟨.int i,H,I,⟨_,rfl⟩,q⟩
 ·obtain⟨u,rfl,r1⟩:=vals1 r
  cases r1
  exact call_int_bool ⟨.int (if k then 1 else 0),H,I.tok _,⟨_,rfl⟩,q⟩
noncomputable def IJ(K:PySem.W.Frag)(x:V)(H:Hp)(n:Nat):Prop:=
 match x with
 | .str y=>y.length≤sizeLine∧n=y.length
 | .byt y=>y.size≤sizeLine∧n=y.size
 | .ref p=>(∃xs,lR K H p xs∧n=xs.length)∨∃xs,nH K H p xs∧n=xs.length
 | _=>False
theorem Bp:jH X (.builtin "len") (fun xs H Q=>∃x n,xs=[x]∧IJ X.K x H n∧Q (.int n) H):=by
 intro pins s σ H xs us Q I r h
 obtain⟨x,n,rfl,e,q⟩:=h
 obtain⟨u,rfl,rx⟩:=vals1 r
 have hl:=mR
 have hs:sizeLine=16777216:=sizeLine_eq
 cases x with
 | str y=>
   obtain⟨t,rfl⟩:=rx
   obtain⟨hy,e'⟩:y.length≤sizeLine∧n=y.length:=e
   subst e'
   exact len_str (by omega) ⟨.int _,H,I.tok _,⟨_,rfl⟩,q⟩
 | byt y=>
   obtain⟨t,rfl⟩:=rx
   obtain⟨hy,e'⟩:y.size≤sizeLine∧n=y.size:=e
   subst e'
   exact PySem.W.len_bytes (by omega) ⟨.int _,H,I.tok _,⟨_,rfl⟩,q⟩
 | ref p=>
   cases rx
   have e':(∃xs,lR X.K H p xs∧n=xs.length)∨∃xs,nH X.K H p xs∧n=xs.length:=e
   rcases e' with⟨xs,hx,e'⟩ | ⟨xs,hx,e'⟩
   ·subst e'
    obtain⟨its,r',pl,hz⟩:=I.list hx
    have hlen:=r'.length
    exact Calls.call_len_list pl.isList (by simp only[List.size_toArray];omega) ⟨.int xs.length,H,I.tok _,⟨_,by simp only[List.size_toArray];rw [hlen]⟩,q⟩
   ·subst e'
    obtain⟨its,r',pl,hz⟩:=I.tuple hx
    have hlen:=r'.length
    exact len_tuple pl (by simp only[List.size_toArray];omega) ⟨.int xs.length,H,I.tok _,⟨_,by simp only[List.size_toArray];rw [hlen]⟩,q⟩
 | _=>exact(show False from e).elim
end
end L2
namespace L2
open PySem PySem.Spec PyProof.Rows
structure wa (h:Heap) (x dx C:Addr) (mA:Str→Option Value):Prop where
 obj:h.get? x=some (PySem.W.instObj C dx)
 ns:h.Ns1 dx mA
 ne:dx≠x
theorem y0{h:Heap}{dx:Addr}{mA:Str→Option Value}(n:h.Ns1 dx mA):∃od,h.get? dx=some od∧∀name,PySem.W.lookIn name od=some (mA name):=by
 obtain⟨o,es,ep,ho,hd,hk,_,hm⟩:=n
 refine⟨o,ho,fun name=>?_⟩
 have e:=hm name
 unfold nsFind findBy at e
 rw[←Array.find?_toList] at e
 unfold PySem.W.lookIn
 rw[hd]
 dsimp only
 split
 ·rename_i y q
  rw[q] at e
  exact congrArg some e
 ·rename_i q
  rw[q] at e
  have a:es.toList.any (·.refKey)=false:=by
   rw[List.any_eq_false]
   intro y hy
   obtain⟨z,t,hkey⟩:=hk y (Array.mem_toList_iff.mp hy)
   simp [DictEntry.refKey,hkey]
  have a':¬es.toList.any (·.refKey)=true:=by rw[a];exact Bool.false_ne_true
  rw[if_neg a']
  exact congrArg some e
theorem wa.look{h:Heap}{x dx C:Addr}{mA:Str→Option Value}(I:wa h x dx C mA):∃od,PySem.W.InstAt h x (PySem.W.instObj C dx) C (some od)∧∀name,PySem.W.lookIn name od=some (mA name):=
 let⟨od,ho,hl⟩:=y0 I.ns
 ⟨od,⟨I.obj,rfl,rfl,ho⟩,hl⟩
section
variable {prog:Program} {w:World} {A:Around} {E:Value→Shared→Prop} {s:Shared} {K:PySem.W.Frag} {x dx C f:Addr} {mA:Str→Option Value} {name:Str} {v:Value}
theorem get_map{expr:Bool}{Q:Value→Shared→Prop}(X:K.In s.heap)(I:wa s.heap x dx C mA)(hg:PySem.W.plainGet K C name=true)(hh:PySem.W.hasDictIn K C=true)
 (ha:PySem.W.findIn K (.ref C) name=some none) (hv:mA name=some v) (hv':PySem.W.handedIn v=true) (h:Q v {s with toks:=s.toks+1}) :
 wpAny (model prog w) A (getAttr (.ref x) name expr) Q E s:=by
 obtain⟨od,J,hl⟩:=I.look
 exact PySem.W.get_value X J (PySem.W.plainGet_of hg).1 (PySem.W.findObj_own hh ha rfl (by rw[hl,hv])) hv' h
theorem BN{pl:Sem Bool}{Q:Value × List Value→Shared→Prop}(X:K.In s.heap)(I:wa s.heap x dx C mA)(hg:PySem.W.plainGet K C name=true)
 (hf:PySem.W.findIn K (.ref C) name=some (some (.ref f))) (ht:PySem.W.isFn K (.ref f)=true) (hv:mA name=none) (h:Q (.ref f,[.ref x]) s) :
 wpAny (model prog w) A (getMethod (.ref x) name pl) Q E s:=by
 obtain⟨od,J,hl⟩:=I.look
 exact PySem.W.method_fn X J (PySem.W.plainGet_of hg).1 (PySem.W.plainGet_of hg).2 hf (beq_iff_eq.mp ht) (by show(PySem.W.lookIn name od).map (·.isSome)=some false;rw [hl,hv];rfl) h
theorem Cd{ns:List Str}{Q:Unit→Shared→Prop}(X:K.In s.heap)(I:wa s.heap x dx C mA)
 (hs:PySem.W.findIn K (.ref C) "__setattr__"=some (some (.builtin "object.__setattr__"))) (hp:PySem.W.plainOver K C=true) (ht:PySem.W.takerIn K C name=some none) (hh:PySem.W.hasDictIn K C=true)
 (hw:PySem.Within mA ns) (hsz:ns.length≤sizeLine)
 (h:∀h',wa h' x dx C (fun y=>if y=name then some v else mA y)→Heap.SameBut dx s.heap h'→Q () {s with heap:=h',toks:=s.toks+2}) :
 wpAny (model prog w) A (setAttr (.ref x) name v) Q E s:=by
 obtain⟨od,J,hl⟩:=I.look
 refine PySem.W.set_plain X J hs (PySem.W.osa_open (s:={s with toks:=s.toks+1}) (r:=none) X J hp ht fun b=>?_)
 obtain⟨cd,hc,hd'⟩:=PySem.W.any_some hh
 have hx:s.heap.get? x=some ⟨.ref C,some dx, .plain,#[]⟩:=I.obj
 refine wpAny_bind (wpAny_pure (wpAny_bind (wpAny_bind (wpAny_loadPart hx (wpAny_bind (PySem.W.Looks.here (s:={s with toks:=s.toks+1}) (PySem.W.looks_clsIn X hc) ?_))))))
 rw[hd']
 refine wpAny_pure (a:=some dx) (wpAny_bind (wpAny_pure (wpAny_bind ?_)))
 refine wpAny_nsSet1 (s:={s with toks:=s.toks+1}) I.ns fun h' hn2 hs2=>?_
 obtain⟨oD,esD,epD,hoD,hdD,hcD⟩:=hn2.count (PySem.Within.cons name v hw)
 refine wpAny_bind (wpAny_lookBehind hoD (by rw[hdD];exact pastItsLine_dict (Nat.le_trans hcD (by rw[List.length_cons];omega))) ?_)
 exact wpAny_pure (h _ ⟨(hs2.2 _ (Ne.symm I.ne)).trans I.obj,hn2,I.ne⟩ hs2)
theorem Bs{R:Result→Shared→Prop}{vs:List Value}{kw:List (Str × Value)}(X:K.In s.heap)(hm:PySem.W.makesIn K C=true)
 (hi:PySem.W.findIn K (.ref C) "__init__"=some (some (.ref f))) (hf:PySem.W.typeIn K (.ref f)=some (.type "function"))
 (h:codeAny (model prog w) (A.under (.builtin "type.__call__" ⟨.ref C ::vs,kw⟩)) (.call (.ref f) ⟨.ref (s.heap.objs.size+1) ::vs,kw⟩) (PySem.W.InitBack (s.heap.objs.size+1) R)
   {s with heap:=(s.heap.push PySem.W.emptyDict).push (PySem.W.instObj C s.heap.objs.size)}) :
 codeAny (model prog w) A (.call (.ref C) ⟨vs,kw⟩) R s:=by
 obtain⟨hh,g,d,t,os⟩:=s
 exact PySem.W.make_core (PySem.W.makes_of X hm) (PySem.W.looks_findIn X hi) (fun self=>PySem.W.bind_fn X self hf) (.inl rfl) h
end
noncomputable def iK(f:Str)(v:V):List (Str × V)→List (Str × V)
 | []=>[(f,v)]
 | (g,x) ::r=>if g=f then(g,v) ::r else(g,x) ::iK f v r
theorem nM(f g:Str)(v:V):∀fs:List (Str × V),(iK f v fs).lookup g=if g=f then some v else fs.lookup g
 | []=>by
   show List.lookup g [(f,v)]=_
   by_cases h:g=f
   ·have hb:(g==f)=true:=beq_iff_eq.mpr h
    simp only[List.lookup,hb,if_pos h]
   ·have hb:(g==f)=false:=beq_eq_false_iff_ne.mpr h
    simp only[List.lookup,hb,if_neg h]
 | (k,x) ::r=>by
   have ih:=nM f g v r
   rw[show iK f v ((k,x) ::r)=(if k=f then(k,v) ::r else(k,x) ::iK f v r) from rfl]
   by_cases hk:k=f
   ·rw[if_pos hk]
    by_cases h:g=k
    ·have hb:(g==k)=true:=beq_iff_eq.mpr h
     simp only[List.lookup,hb,if_pos (h.trans hk)]
    ·have hb:(g==k)=false:=beq_eq_false_iff_ne.mpr h
     simp only[List.lookup,hb,if_neg (fun e:g=f=>h (e.trans hk.symm))]
   ·rw[if_neg hk]
    by_cases h:g=k
    ·have hb:(g==k)=true:=beq_iff_eq.mpr h
     simp only[List.lookup,hb,if_neg (fun e:g=f=>hk (h.symm.trans e))]
    ·have hb:(g==k)=false:=beq_eq_false_iff_ne.mpr h
     simp only[List.lookup,hb]
     exact ih
theorem m6(f:Str)(v:V):∀fs:List (Str × V),f∈(iK f v fs).map (·.1)∧∀g,g∈fs.map (·.1)→g∈(iK f v fs).map (·.1)
 | []=>⟨by simp [iK],fun g h=>by simp at h⟩
 | (k,x) ::r=>by
   obtain⟨i1,i2⟩:=m6 f v r
   rw[show iK f v ((k,x) ::r)=(if k=f then(k,v) ::r else(k,x) ::iK f v r) from rfl]
   by_cases hk:k=f
   ·rw[if_pos hk]
    subst hk
    exact⟨by simp,fun g h=>by simpa using h⟩
   ·rw[if_neg hk]
    refine⟨?_,fun g h=>?_⟩
    ·rw[List.map_cons]
     exact List.mem_cons_of_mem _ i1
    ·rw[List.map_cons] at h ⊢
     rcases List.mem_cons.mp h with e | e
     ·exact List.mem_cons.mpr (.inl e)
     ·exact List.mem_cons_of_mem _ (i2 g e)
theorem nJ(f:Str)(v:V):∀fs:List (Str × V),(iK f v fs).length≤fs.length+1
 | []=>by simp [iK]
 | (k,x) ::r=>by
   have ih:=nJ f v r
   rw[show iK f v ((k,x) ::r)=(if k=f then(k,v) ::r else(k,x) ::iK f v r) from rfl]
   by_cases hk:k=f
   ·rw[if_pos hk,List.length_cons,List.length_cons];omega
   ·rw[if_neg hk,List.length_cons,List.length_cons];omega
theorem l4.some_of{v:V}{o:Option Value}(r:l4 (some v) o):∃u,o=some u∧RelV v u:=by
 cases o with
 | none=>exact(show False from r).elim
 | some u=>exact⟨u,rfl,r⟩
theorem l4.none_of{o:Option Value}(r:l4 none o):o=none:=by
 cases o with
 | none=>rfl
 | some u=>exact(show False from r).elim
theorem zi{v:V}{u:Value}(r:RelV v u):PySem.W.handedIn u=true:=by
 cases v with
 | bX=>cases(show u=Value.none from r);rfl
 | bl b=>cases(show u=Value.bool b from r);rfl
 | int i=>obtain⟨t,e⟩:=(show ∃t,u=Value.int i t from r);cases e;rfl
 | str x=>obtain⟨t,e⟩:=(show ∃t,u=Value.str x t from r);cases e;rfl
 | byt b=>obtain⟨t,e⟩:=(show ∃t,u=Value.bytes b t from r);cases e;rfl
 | flt b=>obtain⟨t,e⟩:=(show ∃t,u=Value.float b t from r);cases e;rfl
 | ref a=>cases(show u=Value.ref a from r);rfl
 | ty n=>cases(show u=Value.type n from r);rfl
section
variable {P:Program} {w:World} {H H':Hp} {h h':Heap} {a C dx:Addr} {fs fs':List (Str × V)}
theorem oj(hok:kL P w H h)(e:H a=some (.ins C dx fs)):∃mA,wa h a dx C mA∧(∀f,l4 (fs.lookup f) (mA f))∧PySem.Within mA (fs.map (·.1))∧fs.length≤1000∧H dx=some (.own a):=by
 obtain⟨d,z,ne,ob,mA,n,r,q⟩:=(show c9 P w H h a (.ins C dx fs) from hok a _ e)
 exact⟨mA,⟨ob,n,ne⟩,r,q,z,d⟩
end
structure tK (K:PySem.W.Frag) (C:Addr):Prop where
 pg:PySem.W.plainGet K C Str.empty=true
 hd:PySem.W.hasDictIn K C=true
 po:PySem.W.plainOver K C=true
 sa:PySem.W.findIn K (.ref C) "__setattr__"=some (some (.builtin "object.__setattr__"))
theorem tK.get{K:PySem.W.Frag}{C:Addr}(c:tK K C)(f:Str):PySem.W.plainGet K C f=true:=c.pg
noncomputable def cO(K:PySem.W.Frag)(C:Addr)(f:Str):Prop:=PySem.W.findIn K (.ref C) f=some none
theorem cO.H_{K:PySem.W.Frag}{C:Addr}{f:Str}(n:cO K C f):PySem.W.takerIn K C f=some none:=by
 unfold PySem.W.takerIn
 rw[show PySem.W.findIn K (.ref C) f=some none from n]
 rfl
structure LG (K:PySem.W.Frag) (C:Addr) (f:Str) (v:V) (u:Value):Prop where
 at_:PySem.W.findIn K (.ref C) f=some (some u)
 rel:RelV v u
 get:PySem.W.specialIn K u "__get__"=some none
 cp:PySem.W.copiedNames.contains f=false
structure Meth (K:PySem.W.Frag) (C:Addr) (m:Str) (f:Addr):Prop where
 at_:PySem.W.findIn K (.ref C) m=some (some (.ref f))
 fn:PySem.W.isFn K (.ref f)=true
 kp:PySem.W.keepIn K (.ref f)=true
section
variable {X:Cx} {pins:List (Addr × Obj)} {σ:St} {H:Hp} {s:Shared} {a C dx:Addr} {fs:List (Str × V)} {f:Str} {v:V} {A:Around} {E:Value→Shared→Prop}
theorem wu{b:Bool}{Q:Value→Shared→Prop}(I:Inv X pins σ H s)(e:H a=some (.ins C dx fs))(c:tK X.K C)(n:cO X.K C f)(l:fs.lookup f=some v)
 (h:∀u s',Inv X pins σ H s'→RelV v u→Q u s'):wpAny (model X.prog X.w) A (getAttr (.ref a) f b) Q E s:=by
 obtain⟨mA,O,r,_,_,_⟩:=oj I.hok e
 obtain⟨u,hu,ru⟩:=l4.some_of (v:=v) (o:=mA f) (by rw[←l];exact r f)
 exact get_map I.mQ O (c.get f) c.hd n hu (zi ru) (h u _ (I.tok _) ru)
theorem wY{m:Str}{g:Addr}{pl:Sem Bool}{Q:Value × List Value→Shared→Prop}(I:Inv X pins σ H s)(e:H a=some (.ins C dx fs))(c:tK X.K C)(k:Meth X.K C m g)(l:fs.lookup m=none)
 (h:Q (.ref g,[.ref a]) s):wpAny (model X.prog X.w) A (getMethod (.ref a) m pl) Q E s:=by
 obtain⟨mA,O,r,_,_,_⟩:=oj I.hok e
 have hn:mA m=none:=l4.none_of (by rw[←l];exact r m)
 exact BN I.mQ O (c.get m) k.at_ k.fn hn h
theorem wz{y:V}{u:Value}{Q:Unit→Shared→Prop}(I:Inv X pins σ H s)(e:H a=some (.ins C dx fs))(c:tK X.K C)(n:cO X.K C f)(hl:fs.length < 1000)(ry:RelV y u)
 (h:∀s',Inv X pins σ (upd H a (.ins C dx (iK f y fs))) s'→Q () s'):wpAny (model X.prog X.w) A (setAttr (.ref a) f u) Q E s:=by
 obtain⟨mA,O,r,wi,_,ho⟩:=oj I.hok e
 have hz:(fs.map (·.1)).length≤sizeLine:=by rw[List.length_map,sizeLine_eq];omega
 refine Cd I.mQ O c.sa c.po n.H_ c.hd wi hz fun h' O' sb=>h _ ?_
 have hd:∃o,h'.get? dx=some o:=let⟨o,_,_,e',_⟩:=O'.ns;⟨o,e'⟩
 refine I.write (x:=a) (e:=dx) (by rw[e];exact True.intro) (.inr ho) (fun b q hb z=>(sb.2 b hb).trans z) hd ?_
 refine⟨by rw[aT O.ne];exact ho,?_,O.ne,O'.obj,_,O'.ns,fun g=>?_,fun g hg=>?_⟩
 ·have:=nJ f y fs;omega
 ·show l4 ((iK f y fs).lookup g) (if g=f then some u else mA g)
  rw[nM]
  by_cases q:g=f
  ·rw[if_pos q,if_pos q];exact ry
  ·rw[if_neg q,if_neg q];exact r g
 ·by_cases q:g=f
  ·rw[q];exact(m6 f y fs).1
  ·refine(m6 f y fs).2 g (wi g fun z=>hg ?_)
   show(if g=f then some u else mA g)=none
   rw[if_neg q];exact z
theorem Inv.made(I:Inv X pins σ H s):Inv X pins σ (upd (upd H s.heap.objs.size (.own (s.heap.objs.size+1))) (s.heap.objs.size+1) (.ins C s.heap.objs.size []))
 {s with heap:=(s.heap.push PySem.W.emptyDict).push (PySem.W.instObj C s.heap.objs.size)}:=by
 have e1:(s.heap.push PySem.W.emptyDict).get? s.heap.objs.size=some PySem.W.emptyDict:=Heap.get?_push_size s.heap rfl
 have e2:((s.heap.push PySem.W.emptyDict).push (PySem.W.instObj C s.heap.objs.size)).get? (s.heap.objs.size+1)=some (PySem.W.instObj C s.heap.objs.size):=by
  have:=Heap.get?_push_size (s.heap.push PySem.W.emptyDict) (o:=PySem.W.instObj C s.heap.objs.size) rfl
  rwa [Heap.size_push] at this
 have e3:(s.heap.push PySem.W.emptyDict).Ns s.heap.objs.size (fun _=>none):=⟨PySem.W.emptyDict,#[],_,e1,rfl,(fun e he=>absurd he (by simp)),fun _=>rfl⟩
 have I1:=I.laid (a:=s.heap.objs.size) (o:= .own (s.heap.objs.size+1)) (h':=s.heap.push PySem.W.emptyDict) (t':=s.toks) (fun b u q=>Heap.get?_push_of_some _ q) (Nat.le_refl _) ⟨_,e1⟩
 refine I1.laid (a:=s.heap.objs.size+1) (o:= .ins C s.heap.objs.size []) (t':=s.toks) (fun b u q=>Heap.get?_push_of_some _ q) (Nat.le_of_eq (Heap.size_push _ _)) ?_
 have ne:s.heap.objs.size≠s.heap.objs.size+1:=Nat.ne_of_lt (Nat.lt_succ_self _)
 refine⟨by rw[aT ne,aN],Nat.zero_le _,ne,e2,fun _=>none,(Heap.Ns1.of_empty e3).at fun o q=>Heap.get?_push_of_some _ q,fun _=>True.intro,fun y hy=>absurd rfl hy⟩
theorem CI{prog:Program}{w:World}{env:Env}{e:Expr}{f:Str}{pos:Pos}{s:Shared}{Q:Value→Shared→Prop}(hb:attributeBase e f env (eval e env)=eval e env)
 (h:wpAny (model prog w) A (eval e env) (fun o s₁=>wpAny (model prog w) A (getAttr o f true) Q E s₁) E s):wpAny (model prog w) A (eval (.Attribute e f pos) env) Q E s:=
 Attribute_any_ h (by rw[arm_eval_Attribute,hb])
end
noncomputable def IF(K:PySem.W.Frag)(ta:TE)(f:Str):TE:=fun σ H Q=>ta σ H fun x H1=>∃a C dx fs v,x= .ref a∧H1 a=some (.ins C dx fs)∧tK K C∧cO K C f∧fs.lookup f=some v∧Q v H1
noncomputable def K7(K:PySem.W.Frag)(ta:TE)(f:Str):TE:=fun σ H Q=>ta σ H fun x H1=>∃a C dx fs v u,x= .ref a∧H1 a=some (.ins C dx fs)∧tK K C∧LG K C f v u∧fs.lookup f=none∧Q v H1
noncomputable def IV(K:PySem.W.Frag)(ta tv:TE)(f:Str):TS:=fun D σ H=>tv σ H fun y H1=>ta σ H1 fun x H2=>∃a C dx fs,x= .ref a∧H2 a=some (.ins C dx fs)∧tK K C∧cO K C f∧fs.length < 1000∧
 D.nx σ (upd H2 a (.ins C dx (iK f y fs)))
noncomputable def KL(X:Cx)(op:Operator)(rd:V→V→Hp→VK→Prop):Prop:=
 ∀(pins:List (Addr × Obj)) (s:Shared) (σ:St) (H:Hp) (x y:V) (u v:Value) (Q:VK),Inv X pins σ H s→RelV x u→RelV y v→rd x y H Q→wpAny (model X.prog X.w) X.A (inplaceOp op u v) (EP X pins σ Q) X.xe s
noncomputable def Io(K:PySem.W.Frag)(ta tv:TE)(rd:V→V→Hp→VK→Prop)(f:Str):TS:=fun D σ H=>ta σ H fun x H1=>∃a C dx fs v,x= .ref a∧H1 a=some (.ins C dx fs)∧tK K C∧cO K C f∧fs.lookup f=some v∧
 tv σ H1 fun y H2=>rd v y H2 fun z H3=>∃dx' fs',H3 a=some (.ins C dx' fs')∧fs'.length < 1000∧D.nx σ (upd H3 a (.ins C dx' (iK f z fs')))
section
variable {X:Cx} {o e value:Expr} {f:Str} {pos pos' tpos:Pos} {ta tv:TE}
theorem EF(he:PE X e ta)(hb:attributeBase e f X.env (eval e X.env)=eval e X.env):PE X (.Attribute e f pos) (IF X.K ta f):=by
 intro pins s σ H Q I h
 refine CI hb (dw (he pins s σ H _ I h) fun u s1 ⟨x,H1,I1,rx,a,C,dx,fs,v,ex,ea,c,n,l,q⟩=>?_)
 subst ex
 obtain rfl:u=Value.ref a:=rx
 exact wu I1 ea c n l fun u' s2 I2 ru=>⟨v,H1,I2,ru,q⟩
theorem Ez(ha:PE X o ta)(hv:PE X value tv)(hs:swapsWith value (some (.Attribute o f pos')) pos.line X.env=pure false):PS X (.Assign [.Attribute o f pos'] value pos) (IV X.K ta tv f):=by
 intro pins s σ H D I h
 refine plainObj_wpAny_Assign_Attribute (dw (hv pins s σ H _ I h) fun u s1 ⟨y,H1,I1,ry,q⟩=>dw (ha pins s1 σ H1 _ I1 q) fun ov s2 ⟨x,H2,I2,rx,a,C,dx,fs,ex,ea,c,n,l,q2⟩=>?_) hs
 subst ex
 obtain rfl:ov=Value.ref a:=rx
 exact wz I2 ea c n l ry fun s3 I3=>⟨σ,_,I3,q2⟩
noncomputable def LD:V→V→Hp→VK→Prop:=fun x y H Q=>∃i j,x= .int i∧y= .int j∧Q (.int (i+j)) H
noncomputable def Lb:V→V→Hp→VK→Prop:=fun x y H Q=>∃i j,x= .int i∧y= .int j∧Q (.int (i - j)) H
end
section
variable {X:Cx} {pins:List (Addr × Obj)} {σ:St} {H:Hp} {s:Shared} {A:Around} {E:Value→Shared→Prop} {Q:Value→Shared→Prop} {c:Value} {b:Bool}
inductive oa (K:PySem.W.Frag) (H:Hp):V→Value→Prop where
 | bX:oa K H .bX (.type "NoneType")
 | bl (x:Bool):oa K H (.bl x) (.type "bool")
 | int (i:Int):oa K H (.int i) (.type "int")
 | str (x:Str):oa K H (.str x) (.type "str")
 | flt (x:UInt64):oa K H (.flt x) (.type "float")
 | lst {a:Addr} {xs:List V} (e:H a=some (.lst xs)):oa K H (.ref a) (.type "list")
 | gq {a:Addr} {o:Obj} {xs:List V} (e:H a=some (.gq o (.lst xs))):oa K H (.ref a) (.type "list")
 | tup {a:Addr} {xs:List V} (e:H a=some (.tup xs)):oa K H (.ref a) (.type "tuple")
 | dK {a:Addr} {kvs:List (Key × V)} (e:H a=some (.dK kvs)):oa K H (.ref a) (.type "dict")
 | dT {a:Addr} {kvs:List (List Key × V)} (e:H a=some (.dT kvs)):oa K H (.ref a) (.type "dict")
 | ins {a C dx:Addr} {fs:List (Str × V)} (e:H a=some (.ins C dx fs)) (cl:tK K C) (ha:PySem.W.findIn K (.ref C) "__class__"=some (some (.builtin "object.__class__")))
    (hn:PySem.W.specialIn K (.builtin "object.__class__") "__get__"=some (some (.builtin "getset_descriptor.__get__"))) (htk:PySem.W.takesIn K (.builtin "object.__class__")=some true)
    (hm:PySem.W.mroIn K C (.type "object")=some true):oa K H (.ref a) (.ref C)
theorem kE{x:V}{u t:Value}(I:Inv X pins σ H s)(rx:RelV x u)(ty:oa X.K H x t)(e:PySem.W.kitOne X.K t c=some b)(h:∀tk,Q (.bool b) {s with toks:=tk}) :
 wpAny (model X.prog X.w) A (call (.builtin "isinstance") [u,c]) Q E s:=by
 cases ty with
 | bX=>cases(show u=Value.none from rx);exact PySem.W.kia_one PySem.W.kitx_none I.mQ True.intro e (fun z=>nomatch z) h
 | bl y=>cases(show u=Value.bool y from rx);exact PySem.W.kia_one PySem.W.kitx_bool I.mQ True.intro e (fun z=>nomatch z) h
 | int i=>obtain⟨t,q⟩:=(show ∃t,u=Value.int i t from rx);cases q;exact PySem.W.kia_one PySem.W.kitx_int I.mQ True.intro e (fun z=>nomatch z) h
 | str y=>obtain⟨t,q⟩:=(show ∃t,u=Value.str y t from rx);cases q;exact PySem.W.kia_one PySem.W.kitx_str I.mQ True.intro e (fun z=>nomatch z) h
 | flt y=>obtain⟨t,q⟩:=(show ∃t,u=Value.float y t from rx);cases q;exact PySem.W.kia_one PySem.W.kitx_float I.mQ True.intro e (fun z=>nomatch z) h
 | @lst a xs ea=>
   cases(show u=Value.ref a from rx)
   obtain⟨_,_,n,_,h1⟩:=(show c9 X.prog X.w H s.heap a (.lst xs) from I.hok a _ ea)
   exact PySem.W.kia_one PySem.W.kitx_list I.mQ ⟨_,h1,rfl⟩ e (fun z=>nomatch z) h
 | @gq a ob xs ea=>
   cases(show u=Value.ref a from rx)
   obtain⟨_,_,_,n,_,h1⟩:=(show c9 X.prog X.w H s.heap a (.gq ob (.lst xs)) from I.hok a _ ea)
   exact PySem.W.kia_one PySem.W.kitx_list I.mQ ⟨_,h1,rfl⟩ e (fun z=>nomatch z) h
 | @tup a xs ea=>
   cases(show u=Value.ref a from rx)
   obtain⟨_,_,_,p⟩:=(show c9 X.prog X.w H s.heap a (.tup xs) from I.hok a _ ea)
   obtain⟨o,h1,h2,_⟩:=p
   exact PySem.W.kia_one PySem.W.kitx_tuple I.mQ ⟨o,h1,h2⟩ e (fun z=>nomatch z) h
 | @dK a kvs ea=>
   cases(show u=Value.ref a from rx)
   obtain⟨_,_,vs,_,p⟩:=(show c9 X.prog X.w H s.heap a (.dK kvs) from I.hok a _ ea)
   obtain⟨o,es,ep,h1,h2,_⟩:=p
   exact PySem.W.kia_one PySem.W.kitx_dict I.mQ ⟨o,h1,h2.1⟩ e (fun z=>nomatch z) h
 | @dT a kvs ea=>
   cases(show u=Value.ref a from rx)
   obtain⟨_,_,xs,_,o,es,ep,h1,h2,_⟩:=(show c9 X.prog X.w H s.heap a (.dT kvs) from I.hok a _ ea)
   exact PySem.W.kia_one PySem.W.kitx_dict I.mQ ⟨o,h1,h2.1⟩ e (fun z=>nomatch z) h
 | @ins a C dx fs ea cl ha hn htk hm=>
   cases(show u=Value.ref a from rx)
   obtain⟨mA,O,_⟩:=oj I.hok ea
   obtain⟨od,J,_⟩:=O.look
   exact PySem.W.kia_one (PySem.W.kitx_own (cl.get _) cl.hd ha hn htk hm) I.mQ J e (fun z=>nomatch z) h
end
end L2
namespace L2
open PySem PySem.Spec PyProof.Rows
structure dS (k:Nat) (A:Around):Prop where
 hd:A.handled=none
 dp:A.depth+3*k+5 < recursionLimit
 un:A.units+16*k+200 < cLine
theorem dS.mono{j k:Nat}{A:Around}(r:dS k A)(h:j≤k):dS j A:=⟨r.hd,by have:=r.dp;omega,by have:=r.un;omega⟩
theorem dS.deeper{k:Nat}{A:Around}(r:dS (k+1) A)(env:Env):dS k (A.deeper env):=
 ⟨r.hd,by have:=r.dp;show A.depth+1+3*k+5 < _;omega,by have:=r.un;show A.units+3+16*k+200 < _;omega⟩
theorem vV{A:Around}{C:Addr}{us:List Value}{kw:List (Str × Value)}:(A.under (.builtin "type.__call__" ⟨.ref C ::us,kw⟩)).depth=A.depth+1:=by
 first | rfl | simp [Around.under,Code.weight,Code.isCreation,Code.isGuard,Code.isCaller,Code.frames,Code.isFrame,guardIds]
theorem vN{A:Around}{C:Addr}{us:List Value}{kw:List (Str × Value)}:(A.under (.builtin "type.__call__" ⟨.ref C ::us,kw⟩)).units=A.units+1:=by
 first | rfl | simp [Around.under,Code.cUnits,Code.frames,Code.isFrame]
theorem dS.make{k:Nat}{A:Around}(r:dS (k+1) A)(C:Addr)(us:List Value)(kw:List (Str × Value)):dS k (A.under (.builtin "type.__call__" ⟨.ref C ::us,kw⟩)):=
 ⟨r.hd,by have:=r.dp;rw [vV];omega,by have:=r.un;rw [vN];omega⟩
theorem dS.depth{k:Nat}{A:Around}(r:dS k A):A.depth < recursionLimit:=by have:=r.dp;omega
theorem dS.units{k:Nat}{A:Around}(r:dS k A):A.units+64 < cLine:=by have:=r.un;omega
noncomputable def IG:TA:=fun _ H Q=>Q [] H
noncomputable def HK(ta:TE)(tr:TA):TA:=fun σ H Q=>ta σ H fun x H1=>tr σ H1 fun xs H2=>Q (x ::xs) H2
section
variable {X:Cx} {e:Expr} {es:List Expr} {te:TE} {t:TA} {pos:Pos}
theorem f7:PA X [] IG:=fun _ _ _ _ H Q I h=>Calls.spliced_nil ⟨[],H,I, .nil,h⟩
theorem dz(ha:PE X e te)(hr:PA X es t)(hs:starEach (e ::es) X.env=(false,eval e X.env) ::starEach es X.env:=by rfl):PA X (e ::es) (HK te t):=by
 intro pos pins s σ H Q I h
 rw[hs]
 show wpAny _ _ (spliced ((false,eval e X.env) ::backTo pos (starEach es X.env))) _ _ s
 refine Calls.spliced_cons (dw (ha pins s σ H _ I h) fun u s1 ⟨x,H1,I1,r1,q1⟩=>?_)
 exact dw (hr pos pins s1 σ H1 _ I1 q1) fun us s2 ⟨xs,H2,I2,r2,q2⟩=>⟨x ::xs,H2,I2, .cons r1 r2,q2⟩
noncomputable def Jm(t:TA):TE:=fun σ H Q=>t σ H fun xs H1=>xs.length≤sizeLine∧∀p,H1 p=none→Q (.ref p) (upd H1 p (.tup xs))
noncomputable def JN(t:TA):TE:=fun σ H Q=>t σ H fun xs H1=>xs.length≤sizeLine∧∀p,H1 p=none→Q (.ref p) (upd H1 p (.lst xs))
theorem z9{x1}(h:PA X es t):PE X (.Tuple es x1 pos) (Jm t):=by
 intro pins s σ H Q I hq
 refine wpAny_Tuple_spliced (dw (h pos pins s σ H _ I hq) fun us s1 ⟨xs,H1,I1,r,z,q⟩=>⟨by rw[←r.length];exact z,?_⟩)
 have hf:H1 s1.heap.objs.size=none:=I1.hok.fresh (Nat.le_refl _)
 refine⟨.ref s1.heap.objs.size,upd H1 s1.heap.objs.size (.tup xs),I1.laid (t':=s1.toks) (fun b u e=>Heap.get?_push_of_some _ e) (Nat.le_refl _) ?_,rfl,q _ hf⟩
 exact⟨z,us,r,⟨_,Heap.get?_push_size _ rfl,rfl,_,rfl⟩⟩
theorem Aq(h:PA X es t):PE X (.List es pos) (JN t):=by
 intro pins s σ H Q I hq
 refine wpAny_List_spliced (dw (h pos pins s σ H _ I hq) fun us s1 ⟨xs,H1,I1,r,z,q⟩=>⟨by rw[←r.length];exact z,?_⟩)
 have hf:H1 s1.heap.objs.size=none:=I1.hok.fresh (Nat.le_refl _)
 refine⟨.ref s1.heap.objs.size,upd H1 s1.heap.objs.size (.lst xs),I1.laid (t':=s1.toks) (fun b u e=>Heap.get?_push_of_some _ e) (Nat.le_refl _) ?_,rfl,q _ hf⟩
 exact⟨z,us,0,r,Heap.get?_push_size _ rfl⟩
end
noncomputable abbrev Sp:=List V→Hp→VK→XK→Prop
noncomputable abbrev zA:=List Env→Hp→Shared→XK→Value→Shared→Prop
structure vk (P:Program) (w:World) (K:PySem.W.Frag) (mg:Str→Option Value) (base:Heap) (A:Around) (outer:List Env) (s:Shared) (H:Hp):Prop where
 frames:A.frames=some outer
 mod:Mod K mg base
 bs:∀b o,base.get? b=some o→s.heap.get? b=some o∧H b=none
 bsz:base.objs.size≤s.heap.objs.size
 nT:s.heap.FunFrames base outer
 frf:∀b∈zm outer,H b=none
 hok:kL P w H s.heap
 bare:AllBare s.gens
noncomputable def CE(outer:List Env)(P:Program)(w:World)(H:Hp)(s:Shared)(Q:VK)(u:Value)(s':Shared):Prop:=
 ∃v H',s'.os=s.os∧AllBare s'.gens∧Un (zm outer) [] H H' s.heap s'.heap∧kL P w H' s'.heap∧RelV v u∧Q v H'
noncomputable def CR(CX:zA)(outer:List Env)(P:Program)(w:World)(H:Hp)(s:Shared)(Q:VK)(E:XK)(r:Result)(s':Shared):Prop:=
 match r with
 | .ok (.ret u)=>CE outer P w H s Q u s'
 | .ok _=>False
 | .error e=>CX outer H s E e s'
structure f_ (P:Program) (w:World) (K:PySem.W.Frag) (mg:Str→Option Value) (base:Heap) (CX:zA) (k:Nat) (f:Addr) (fd:FuncData) (ps:List Str) (sp:Sp):Prop where
 len:∀vs H Q E,sp vs H Q E→vs.length=ps.length
 run:∀(A:Around) (outer:List Env) (s:Shared) (H:Hp) (args:Args) (us:List Value) (vs:List V) (Q:VK) (E:XK),dS k A→vk P w K mg base A outer s H→BindsTo s fd args (ps.zip us)→Vals vs us→sp vs H Q E→
  codeAny (model P w) A (.call (.ref f) args) (CR CX outer P w H s Q E) s
theorem f_.imp{P:Program}{w:World}{K:PySem.W.Frag}{mg:Str→Option Value}{base:Heap}{CX:zA}{k:Nat}{f:Addr}{fd:FuncData}{ps:List Str}{sp sp':Sp}(F:f_ P w K mg base CX k f fd ps sp)
 (h:∀vs H Q E,sp' vs H Q E→sp vs H Q E):f_ P w K mg base CX k f fd ps sp':=
 ⟨fun vs H Q E q=>F.len vs H Q E (h _ _ _ _ q),fun A outer s H args us vs Q E hr he hb hv hs=>F.run A outer s H args us vs Q E hr he hb hv (h _ _ _ _ hs)⟩
theorem vk.make{P:Program}{w:World}{K:PySem.W.Frag}{mg:Str→Option Value}{base:Heap}{A:Around}{outer:List Env}{s:Shared}{H:Hp}(e:vk P w K mg base A outer s H)(C:Addr)(us:List Value)(kw:List (Str × Value)) :
 vk P w K mg base (A.under (.builtin "type.__call__" ⟨.ref C ::us,kw⟩)) outer s H:=⟨by first | exact e.frames | (simpa [Around.under,Code.envs,Code.isFrame,pushEnvs] using e.frames),e.mod,e.bs,e.bsz,e.nT,e.frf,e.hok,e.bare⟩
section
variable {X:Cx} {pins:List (Addr × Obj)} {σ:St} {H:Hp} {s s':Shared}
theorem Inv.HD(I:Inv X pins σ H s):vk X.prog X.w X.K X.mg X.base X.A X.stack s H:=
 ⟨I.ok.frames,I.ok.mod,I.bs,Nat.le_trans I.ok.bsz I.sz,I.stack,I.xA,I.hok,I.bare⟩
theorem Inv.after{Q:VK}{u:Value}(I:Inv X pins σ H s)(h:CE X.stack X.prog X.w H s Q u s'):EP X pins σ Q u s':=by
 obtain⟨v,H',os,bare,un,hok,r,q⟩:=h
 obtain⟨hh,g,d,t,os'⟩:=s'
 obtain rfl:os'=s.os:=os
 exact⟨v,H',I.call (h':=hh) (g':=g) (d':=d) (t':=t) (ch:=[]) un hok bare (fun b z=>absurd z (by simp)),r,q⟩
end
noncomputable def Hd(sp:Sp)(dvs:List V)(E:XK)(t:TA):TE:=fun σ H Q=>t σ H fun vs H1=>sp (vs++dvs) H1 Q E
noncomputable def HQ(C:Addr)(m:Str)(sp:Sp)(dvs:List V)(E:XK)(ta:TE)(t:TA):TE:=fun σ H Q=>ta σ H fun x H1=>∃a dx fs,x= .ref a∧H1 a=some (.ins C dx fs)∧fs.lookup m=none∧
 t σ H1 fun vs H2=>sp (x ::(vs++dvs)) H2 Q E
noncomputable def GO(C:Addr)(sp:Sp)(dvs:List V)(E:XK)(t:TA):TE:=fun σ H Q=>t σ H fun vs H1=>∀x dx,H1 x=none→H1 dx=none→dx≠x→
 sp (.ref x ::(vs++dvs)) (upd (upd H1 dx (.own x)) x (.ins C dx [])) (fun v H2=>v= .bX∧Q (.ref x) H2) E
noncomputable def Binds(K:PySem.W.Frag)(fd:FuncData)(ps:List Str)(ds:List Value):Prop:=
 ∀(s:Shared) (us:List Value),K.In s.heap→(us++ds).length=ps.length→BindsTo s fd ⟨us,[]⟩ (ps.zip (us++ds))
theorem Binds.all{K:PySem.W.Frag}{fd:FuncData}{ps:List Str}(h:∀us:List Value,us.length=ps.length→bindArgs fd ⟨us,[]⟩=pure (ps.zip us)):Binds K fd ps []:=fun s us _ hl=>by
 rw[List.append_nil] at hl ⊢
 exact .of_eq (h us hl)
noncomputable def Passes(CX:zA)(X:Cx)(E:XK):Prop:=∀(pins:List (Addr × Obj)) (σ:St) (H:Hp) (s:Shared) (e:Value) (s':Shared),Inv X pins σ H s→CX X.stack H s E e s'→X.xe e s'
section
variable {X:Cx} {CX:zA} {k:Nat} {f C:Addr} {fd:FuncData} {ps:List Str} {sp:Sp} {dvs:List V} {ds:List Value} {E:XK} {x m:Str} {p pos apos:Pos} {e o:Expr} {es:List Expr} {ta:TE} {t:TA}
theorem Ba{pins:List (Addr × Obj)}{σ:St}{H:Hp}{s:Shared}{Q:VK}{us:List Value}{vs:List V}(F:f_ X.prog X.w X.K X.mg X.base CX k f fd ps sp)(hr:dS k X.A)(hb:Binds X.K fd ps ds)(hd:Vals dvs ds)(hx:Passes CX X E)
 (I:Inv X pins σ H s) (r:Vals vs us) (h:sp (vs++dvs) H Q E):wpAny (model X.prog X.w) X.A (call (.ref f) us) (EP X pins σ Q) X.xe s:=by
 have r2:Vals (vs++dvs) (us++ds):=r.append hd
 have hl:(us++ds).length=ps.length:=by rw[←r2.length];exact F.len _ _ _ _ h
 refine wpAny_call (codeAny_mono (F.run X.A X.stack s H ⟨us,[]⟩ (us++ds) (vs++dvs) Q E hr I.HD (hb s us I.mQ hl) r2 h) fun r s' hq=>?_)
 cases r with
 | error e=>exact hx pins σ H s e s' I hq
 | ok fl=>
   cases fl with
   | ret u=>exact I.after hq
   | next=>exact False.elim hq
   | brk=>exact False.elim hq
   | cont=>exact False.elim hq
theorem sd(F:f_ X.prog X.w X.K X.mg X.base CX k f fd ps sp)(hr:dS k X.A)(hg:Gl X x)(hm:X.mg x=some (.ref f))(hk:PySem.W.keepIn X.K (.ref f)=true)(hb:Binds X.K fd ps ds)(hd:Vals dvs ds)(hx:Passes CX X E)
 (ha:PA X (e ::es) t) (hdb:(x==("__debug__":Str))=false:=by decide) (he:starEach (e ::es) X.env=(false,eval e X.env) ::starEach es X.env:=by rfl) (hpl:(backTo pos (starEach es X.env)).any (·.1)=false:=by rfl) :
 PE X (.Call (.Name x p) (e ::es) [] pos) (Hd sp dvs E t):=by
 intro pins s σ H Q I h
 refine wpAny_Call_Name_kw (xp I hg hm ?_ hdb)
 refine PySem.W.callWith_K (h₀:=X.base) I.ok.mod.kin hk (dw (ha pos pins s σ H _ I h) fun us s1 ⟨vs,H1,I1,r,q⟩=>⟨I1.mQ,?_⟩) he hpl
 exact Ba F hr hb hd hx I1 r q
theorem CL{pl:Sem Bool}(he:PE X o ta)(c:tK X.K C)(hm:Meth X.K C m f)(F:f_ X.prog X.w X.K X.mg X.base CX k f fd ps sp)(hr:dS k X.A)(hb:Binds X.K fd ps ds)(hd:Vals dvs ds)(hx:Passes CX X E)(ha:PA X (e ::es) t)
 (hst:starEach (e ::es) X.env=(false,eval e X.env) ::starEach es X.env:=by rfl) (hpl:(backTo pos (starEach es X.env)).any (·.1)=false:=by rfl)
 (ht:eval (.Call (.Attribute o m apos) (e ::es) [] pos) X.env=(do
   let ov ←eval o X.env
   standAt apos.atName
   let(f,first) ←holding [ov] (getMethod ov m pl)
   callWith pos f first (backTo pos (starEach (e ::es) X.env)) (backToKw pos (keywordEach [] X.env))):=by rfl) :
 PE X (.Call (.Attribute o m apos) (e ::es) [] pos) (HQ C m sp dvs E ta t):=by
 intro pins s σ H Q I h
 refine PySem.W.methodCall_KW (pl:=pl) (dw (he pins s σ H _ I h) fun u s1 ⟨x,H1,I1,rx,a,dx,fs,ex,ea,l,q⟩=>?_) ht
 subst ex
 obtain rfl:u=Value.ref a:=rx
 refine wY I1 ea c hm l ?_
 refine PySem.W.callWith_K (first:=[.ref a]) (h₀:=X.base) I.ok.mod.kin hm.kp (dw (ha pos pins s1 σ H1 _ I1 q) fun us s2 ⟨vs,H2,I2,r,q2⟩=>⟨I2.mQ,?_⟩) hst hpl
 exact Ba (us:= .ref a ::us) (vs:= .ref a ::vs) F hr hb hd hx I2 (.cons rfl r) q2
structure Mk (K:PySem.W.Frag) (C f:Addr):Prop where
 makes:PySem.W.makesIn K C=true
 init:PySem.W.findIn K (.ref C) "__init__"=some (some (.ref f))
 fn:PySem.W.isFn K (.ref f)=true
 kp:PySem.W.keepIn K (.ref C)=true
theorem AF{pins:List (Addr × Obj)}{σ:St}{H:Hp}{s:Shared}{Q:VK}{us:List Value}{vs:List V}(M:Mk X.K C f)(F:f_ X.prog X.w X.K X.mg X.base CX k f fd ps sp)(hr:dS (k+1) X.A)(hb:Binds X.K fd ps ds)(hd:Vals dvs ds)
 (hx:Passes CX X E) (I:Inv X pins σ H s) (r:Vals vs us)
 (h:∀x dx,H x=none→H dx=none→dx≠x→sp (.ref x ::(vs++dvs)) (upd (upd H dx (.own x)) x (.ins C dx [])) (fun v H2=>v= .bX∧Q (.ref x) H2) E) :
 wpAny (model X.prog X.w) X.A (call (.ref C) us) (EP X pins σ Q) X.xe s:=by
 have hq:=h (s.heap.objs.size+1) s.heap.objs.size (I.hok.fresh (Nat.le_succ _)) (I.hok.fresh (Nat.le_refl _)) (Nat.ne_of_lt (Nat.lt_succ_self _))
 have I2:=Inv.made (C:=C) I
 have r2:Vals (V.ref (s.heap.objs.size+1) ::(vs++dvs)) (Value.ref (s.heap.objs.size+1) ::(us++ds)):= .cons rfl (r.append hd)
 have hl:(Value.ref (s.heap.objs.size+1) ::us++ds).length=ps.length:=by
  have e:=r2.length
  rw[F.len _ _ _ _ hq] at e
  exact e.symm
 refine wpAny_call (Bs (f:=f) I.mQ M.makes M.init (beq_iff_eq.mp M.fn) (codeAny_mono (F.run _ X.stack _ _ ⟨Value.ref (s.heap.objs.size+1) ::us,[]⟩ (Value.ref (s.heap.objs.size+1) ::(us++ds)) _ _ E (hr.make C us [])
  (I2.HD.make C us []) (hb _ (Value.ref (s.heap.objs.size+1) ::us) I2.mQ hl) r2 hq) fun r s' hq'=>?_))
 cases r with
 | error e=>exact hx pins σ _ _ e s' I2 hq'
 | ok fl=>
   cases fl with
   | ret u=>
     obtain⟨v,H',I3,rv,ev,q3⟩:=I2.after hq'
     subst ev
     exact⟨rv,⟨V.ref (s.heap.objs.size+1),H',I3,rfl,q3⟩⟩
   | next=>exact False.elim hq'
   | brk=>exact False.elim hq'
   | cont=>exact False.elim hq'
theorem CK(M:Mk X.K C f)(F:f_ X.prog X.w X.K X.mg X.base CX k f fd ps sp)(hr:dS (k+1) X.A)(hg:Gl X x)(hm:X.mg x=some (.ref C))(hb:Binds X.K fd ps ds)(hd:Vals dvs ds)(hx:Passes CX X E)
 (ha:PA X (e ::es) t) (hdb:(x==("__debug__":Str))=false:=by decide) (he:starEach (e ::es) X.env=(false,eval e X.env) ::starEach es X.env:=by rfl) (hpl:(backTo pos (starEach es X.env)).any (·.1)=false:=by rfl) :
 PE X (.Call (.Name x p) (e ::es) [] pos) (GO C sp dvs E t):=by
 intro pins s σ H Q I h
 refine wpAny_Call_Name_kw (xp I hg hm ?_ hdb)
 refine PySem.W.callWith_K (h₀:=X.base) I.ok.mod.kin M.kp (dw (ha pos pins s σ H _ I h) fun us s1 ⟨vs,H1,I1,r,q⟩=>⟨I1.mQ,?_⟩) he hpl
 exact AF M F hr hb hd hx I1 r q
end
noncomputable def PK(X:Cx)(kws:List Keyword)(t:TA):Prop:=
 ∀(pos:Pos) (pins:List (Addr × Obj)) (s:Shared) (σ:St) (H:Hp) (Q:List V→Hp→Prop),Inv X pins σ H s→t σ H Q→wpAny (model X.prog X.w) X.A (evalAll ((backToKw pos (keywordEach kws X.env)).map (·.2))) (AP X pins σ Q) X.xe s
section
variable {X:Cx} {CX:zA} {k:Nat} {f C:Addr} {fd:FuncData} {ps ks:List Str} {sp:Sp} {E:XK} {x m:Str} {p pos apos kpos:Pos} {e o:Expr} {es:List Expr} {kws:List Keyword} {te ta:TE} {t tk:TA} {nm:Option Str}
structure JT (K:PySem.W.Frag) (fd:FuncData) (ps ks:List Str) (g:List Value→List Value→List Value) (gV:List V→List V→List V):Prop where
 to:∀(s:Shared) (us ws:List Value),K.In s.heap→(g us ws).length=ps.length→BindsTo s fd ⟨us,ks.zip ws⟩ (ps.zip (g us ws))
 rel:∀{vs:List V} {us:List Value} {zs:List V} {ws:List Value},Vals vs us→Vals zs ws→Vals (gV vs zs) (g us ws)
noncomputable def Jc(sp:Sp)(gV:List V→List V→List V)(E:XK)(t tk:TA):TE:=fun σ H Q=>t σ H fun vs H1=>tk σ H1 fun zs H2=>sp (gV vs zs) H2 Q E
variable {g:List Value→List Value→List Value} {gV:List V→List V→List V}
end
structure bf (N P:List Str) (sc:Scope):Prop where
 kind:sc.kind= .function
 co:sc.isCoroutine=false
 gen:sc.isGenerator=false
 nd:N.Nodup
 pre:N.take P.length=P
 par:∀x∈P,sc.names.lookup x=some .local∨sc.names.lookup x=some .cell
 nofree:∀y∈sc.names,y.2≠ .free
theorem qJ{kindOf:Str→Option NameKind}{x:Str}:∀{binds:List (Str × Value)} {m:Str→Option Value},(∀v,(x,v) ∉ binds)→bindL kindOf binds m x=m x
 | [],_,_=>rfl
 | (n,v) ::r,m,h=>by
   unfold bindL
   rw[qJ fun w hw=>h w (List.mem_cons_of_mem _ hw)]
   split
   ·have:x≠n:=by rintro rfl;exact h v List.mem_cons_self
    simp [this]
   ·rfl
theorem rQ{kindOf:Str→Option NameKind}{x:Str}:∀{binds:List (Str × Value)} {m:Str→Option Value},(∀v,(x,v) ∉ binds)→bindC kindOf binds m x=m x
 | [],_,_=>rfl
 | (n,v) ::r,m,h=>by
   unfold bindC
   rw[rQ fun w hw=>h w (List.mem_cons_of_mem _ hw)]
   split
   ·rfl
   ·have:x≠n:=by rintro rfl;exact h v List.mem_cons_self
    simp [this]
theorem rN{kindOf:Str→Option NameKind}{x:Str}{v:Value}:∀{P:List Str} {vs:List Value} {i:Nat} {m:Str→Option Value},P.Nodup→P[i]? =some x→vs[i]? =some v→kindOf x=some .local→
 bindL kindOf (P.zip vs) m x=some v
 | [],_,_,_,_,h,_,_=>by simp at h
 | _ ::_,[],_,_,_,_,h,_=>by simp at h
 | p ::P,w ::vs,0,m,nd,h1,h2,hk=>by
   simp at h1 h2;subst h1;subst h2
   show bindL kindOf ((p,w) ::P.zip vs) m p=_
   unfold bindL
   rw[qJ fun v hv=>(List.nodup_cons.mp nd).1 (List.of_mem_zip hv).1,if_pos hk]
   simp
 | p ::P,w ::vs,i+1,m,nd,h1,h2,hk=>by
   show bindL kindOf ((p,w) ::P.zip vs) m x=_
   unfold bindL
   exact rN (i:=i) (List.nodup_cons.mp nd).2 (by simpa using h1) (by simpa using h2) hk
theorem rg{kindOf:Str→Option NameKind}{x:Str}{v:Value}:∀{P:List Str} {vs:List Value} {i:Nat} {m:Str→Option Value},P.Nodup→P[i]? =some x→vs[i]? =some v→kindOf x≠some .local→
 bindC kindOf (P.zip vs) m x=some v
 | [],_,_,_,_,h,_,_=>by simp at h
 | _ ::_,[],_,_,_,_,h,_=>by simp at h
 | p ::P,w ::vs,0,m,nd,h1,h2,hk=>by
   simp at h1 h2;subst h1;subst h2
   show bindC kindOf ((p,w) ::P.zip vs) m p=_
   unfold bindC
   rw[rQ fun v hv=>(List.nodup_cons.mp nd).1 (List.of_mem_zip hv).1,if_neg hk]
   simp
 | p ::P,w ::vs,i+1,m,nd,h1,h2,hk=>by
   show bindC kindOf ((p,w) ::P.zip vs) m x=_
   unfold bindC
   exact rg (i:=i) (List.nodup_cons.mp nd).2 (by simpa using h1) (by simpa using h2) hk
noncomputable def start(N:List Str)(vs:List V):St:=vs.map some++List.replicate (N.length - vs.length) none
noncomputable def pe(CX:zA)(P:Program)(w:World)(K:PySem.W.Frag)(mg:Str→Option Value)(base:Heap)(N:List Str)(qual:Str)(scope:Scope)(f:Addr)(cd:Value)(A:Around)(outer:List Env)(s:Shared)(H:Hp)(E:XK):Cx where
 prog:=P
 w:=w
 K:=K
 mg:=mg
 base:=base
 A:=A.deeper (envOfC qual scope s.heap.objs.size f cd)
 N:=N
 s₀:=s
 H₀:=H
 env:=envOfC qual scope s.heap.objs.size f cd
 outer:=outer
 stack:=envOfC qual scope s.heap.objs.size f cd ::outer
 ex:=[]
 calm:=true
 fn:=fun _=>true
 pn:=[]
 xe:=fun e s'=>wpAny (model P w) (A.deeper (envOfC qual scope s.heap.objs.size f cd)) (leaving (envOfC qual scope s.heap.objs.size f cd) e) (fun _ s''=>CX outer H s E e s'') (fun e' s''=>CX outer H s E e' s'') s'
theorem p8{sc:Scope}{n:Nat}{x:Str}(h:sc.names.lookup x=some .cell):∃c,(cellsFrom n sc.names []).lookup x=some c:=by
 have q:=PySem.W.cellsFrom_some sc.names n [] (.inl h)
 exact Option.isSome_iff_exists.mp q
theorem za{CX:zA}{P:Program}{w:World}{K:PySem.W.Frag}{mg:Str→Option Value}{base:Heap}{N ps:List Str}{qual:Str}{scope:Scope}{f:Addr}{cd:Value}{A:Around}{outer:List Env}{s s1:Shared}{H:Hp}{E:XK}{us:List Value}{vs:List V}
 (S:bf N ps scope) (hd:A.handled=none) (e0:vk P w K mg base A outer s H) (hl:vs.length=ps.length) (r:Vals vs us)
 (x:InCallC s s.heap.objs.size (bindL (envOfC qual scope s.heap.objs.size f cd).kindOf (ps.zip us) fun _=>none) (cellsFrom (s.heap.objs.size+1) scope.names []) (bindC (envOfC qual scope s.heap.objs.size f cd).kindOf (ps.zip us) fun _=>none) s1) :
 Inv (pe CX P w K mg base N qual scope f cd A outer s H E) [] (start N vs) H s1:=by
 have hpl:ps.length≤N.length:=by have:=congrArg List.length S.pre;rw [List.length_take] at this;omega
 obtain⟨h1,tk,rfl,hk⟩:=x.done
 have noA:∀b:Addr,b ∉ (pe CX P w K mg base N qual scope f cd A outer s H E).ex:=fun b z=>absurd (show b∈([]:List Addr) from z) (by simp)
 refine⟨⟨e0.mod,S.kind,rfl,rfl,Nat.le_refl _,fun y z c h1 h2=>?_,fun y hy=>?_,fun y c _ h=>?_,fun _=>hd,Around.frames_deeper e0.frames, .inr ⟨rfl,rfl⟩,fun b z=>absurd z (noA b),e0.bs,e0.bsz,fun b _ _=>noA b,fun b z=>absurd z (noA b),e0.nT,e0.frf⟩,
  rfl,e0.bare,Un.kept hk,⟨_,x.toInCall.ns,fun i y v h1 h2 h3=>?_⟩,fun y c h=>⟨_,x.cell y c h⟩,e0.hok.fresh (Nat.le_refl _),fun y c h=>?_,fun p hp=>absurd (show p∈([]:List (Addr × Obj)) from hp) (by simp),e0.hok.kept hk,?_⟩
 ·exact name_of_addr x.apart (PySem.mem_of_lookup h1) (PySem.mem_of_lookup h2)
 ·have hy:scope.names.lookup y=some .cell∨scope.names.lookup y=some .free:=hy
  rcases hy with hy | hy
  ·exact p8 hy
  ·exact absurd rfl (S.nofree _ (PySem.mem_of_lookup hy))
 ·exact Nat.le_of_lt (x.above y c (PySem.mem_of_lookup h))
 ·have hi:i < vs.length:=by
   unfold start at h2
   by_cases hi:i < vs.length
   ·exact hi
   ·rw[List.getElem?_append_right (by simpa using hi)] at h2
    rw[List.getElem?_replicate] at h2
    split at h2 <;> cases h2
  have ha:vs[i]? =some v:=by
   unfold start at h2
   rw[List.getElem?_append_left (by simpa using hi),List.getElem?_map] at h2
   cases e:vs[i]? with
   | none=>rw [e] at h2;cases h2
   | some a=>rw [e] at h2;cases h2;rfl
  obtain⟨u,hu,rv⟩:=r.get ha
  have hp:ps[i]? =some y:=by
   rw[←S.pre,List.getElem?_take_of_lt (by omega)];exact h1
  have ndP:ps.Nodup:=by rw[←S.pre];exact S.nd.sublist (List.take_sublist _ _)
  refine⟨u,rv,?_⟩
  rcases S.par y (List.mem_of_getElem? hp) with k | k
  ·exact .inl ⟨k,rN ndP hp hu k⟩
  ·obtain⟨c,e⟩:=p8 (n:=s.heap.objs.size+1) k
   refine .inr ⟨.inl k,c,e,?_⟩
   have q:=x.cell y c e
   rw[rg ndP hp hu (by show scope.names.lookup y≠_;rw [k];decide)] at q
   exact q
 ·exact e0.hok.fresh (Nat.le_of_lt (x.above y c (PySem.mem_of_lookup h)))
 ·unfold start
  show _=N.length
  rw[List.length_append,List.length_map,List.length_replicate]
  omega
theorem HS{CX:zA}{P:Program}{w:World}{K:PySem.W.Frag}{mg:Str→Option Value}{base:Heap}{k:Nat}{f:Addr}{name qual:Str}{params:Arguments}{body:List Stmt}{scope:Scope}{dV kV doc pm cdv ct oc:Value}{an od:Option Addr}
 {osl:Array (Option Value)} {N ps:List Str} {sp:Sp} (lk:K.lookup f=some ⟨oc,od, .func (PySem.W.fnOf name qual params body scope dV kV doc pm an cdv ct),osl⟩) (hcd:PySem.W.codeIn K cdv qual=true) (S:bf N ps scope)
 (len:∀vs H Q E,sp vs H Q E→vs.length=ps.length)
 (hbody:∀(A:Around) (outer:List Env) (s:Shared) (H:Hp) (vs:List V) (Q:VK) (E:XK),dS k (A.deeper (envOfC qual scope s.heap.objs.size f cdv))→sp vs H Q E→
   ∃t,r9 (pe CX P w K mg base N qual scope f cdv A outer s H E) body t∧t {nx:=fun _ H'=>Q .bX H',rt:=Q} (start N vs) H) :
 f_ P w K mg base CX (k+1) f (PySem.W.fnOf name qual params body scope dV kV doc pm an cdv ct) ps sp:=by
 refine⟨len,fun A outer s H args us vs Q E hr e0 hb r hsp=>?_⟩
 have hl:=len _ _ _ _ hsp
 have KX:K.In s.heap:=e0.mod.kin.keeps fun b o e=>(e0.bs b o e).1
 have lim:s.heap.NoLimit:=e0.mod.nolimit.keeps fun b o e=>(e0.bs b o e).1
 have hkind:∀y∈ps.zip us,scope.names.lookup y.1=some .local∨(scope.names.lookup y.1=some .cell∧((cellsFrom (s.heap.objs.size+1) scope.names []).lookup y.1).isSome=true):=fun⟨n,v⟩ hy=>by
  rcases S.par n (List.of_mem_zip hy).1 with q | q
  ·exact .inl q
  ·exact .inr ⟨q,PySem.W.cellsFrom_some _ _ _ (.inl q)⟩
 refine codeAny_call_function hr.depth (KX _ _ lk) rfl S.co S.gen rfl (PySem.W.codeRec_of KX hcd) (hb _ _ _ _ ?_)
 refine wpAny_newFunctionEnv_cells S.kind hkind fun env he s1 x=>?_
 subst he
 refine⟨lim.keeps x.toInCall.keep,codeAny_func ?_⟩
 obtain⟨t,ht,hq⟩:=hbody A outer s H vs Q E (hr.deeper _) hsp
 have I:Inv (pe CX P w K mg base N qual scope f cdv A outer s H E) [] (start N vs) H s1:=za S hr.hd e0 hl r x
 refine wpAny_mono (ht [] s1 (start N vs) H _ I hq) (fun fl s' hs=>?_) fun e s' hs=>hs
 have fin:∀{σ':St} {H':Hp} {v:V} {u:Value},Inv (pe CX P w K mg base N qual scope f cdv A outer s H E) [] σ' H' s'→RelV v u→Q v H'→CE outer P w H s Q u s':=
  fun {σ' H' v u} J rv q=>⟨v,H',J.os,J.bare,J.base,J.hok,rv,q⟩
 cases fl with
 | ret u=>
   obtain⟨v,σ',H',J,rv,q⟩:=hs
   exact fin J rv q
 | next=>
   obtain⟨σ',H',J,q⟩:=hs
   exact fin (v:=V.bX) (u:=Value.none) J rfl q
 | brk=>
   obtain⟨_,_,_,q⟩:=hs
   exact False.elim q
 | cont=>
   obtain⟨_,_,_,q⟩:=hs
   exact False.elim q
end L2
namespace L2
open PySem PySem.Spec PyProof.Rows
section
variable {X:Cx} {x:Str} {p pos:Pos} {e:Expr} {es:List Expr} {t:TA} {id T:String} {r:List V→Hp→VK→Prop}
noncomputable def Ku(r:List V→Hp→VK→Prop)(t:TA):TE:=fun σ H Q=>t σ H fun vs H1=>r vs H1 Q
theorem lV(hc:jH X (.builtin id) r)(hg:Gl X x)(hm:X.mg x=none)(hv:bootBuiltins x=some (.builtin id))(ha:PA X (e ::es) t)(hn:x≠"__name__":=by decide)(hdb:(x==("__debug__":Str))=false:=by decide)
 (he:starEach (e ::es) X.env=(false,eval e X.env) ::starEach es X.env:=by rfl) (hpl:(backTo pos (starEach es X.env)).any (·.1)=false:=by rfl):PE X (.Call (.Name x p) (e ::es) [] pos) (Ku r t):=by
 intro pins s σ H Q I h
 refine wpAny_Call_Name_kw (iM I hg hm hv ?_ hn hdb)
 exact PyProof.Rows.callWith_builtin1 (dw (ha pos pins s σ H _ I h) fun us s1 ⟨vs,H1,I1,r1,q1⟩=>hc pins s1 σ H1 vs us Q I1 r1 q1) he hpl
theorem yU(hc:jH X (.type T) r)(hg:Gl X x)(hm:X.mg x=none)(hv:bootBuiltins x=some (.type T))(ha:PA X (e ::es) t)(hn:x≠"__name__":=by decide)(hdb:(x==("__debug__":Str))=false:=by decide)
 (he:starEach (e ::es) X.env=(false,eval e X.env) ::starEach es X.env:=by rfl) (hpl:(backTo pos (starEach es X.env)).any (·.1)=false:=by rfl):PE X (.Call (.Name x p) (e ::es) [] pos) (Ku r t):=by
 intro pins s σ H Q I h
 refine wpAny_Call_Name_kw (iM I hg hm hv ?_ hn hdb)
 exact PyProof.Rows.callWith_type1 (dw (ha pos pins s σ H _ I h) fun us s1 ⟨vs,H1,I1,r1,q1⟩=>hc pins s1 σ H1 vs us Q I1 r1 q1) he hpl
end
end L2
namespace L2
open PySem PySem.Spec PyProof.Rows
section
variable {κ:Type} [DecidableEq κ]
noncomputable def jt(kvs:List (κ × V))(k:κ):Option V:=(kvs.find? fun kv=>decide (kv.1=k)).map (·.2)
noncomputable def putK(kvs:List (κ × V))(k:κ)(v:V):List (κ × V):=
 if(kvs.any fun kv=>decide (kv.1=k))=true then kvs.map (fun kv=>if kv.1=k then(kv.1,v) else kv) else kvs++[(k,v)]
noncomputable def zB(kvs:List (κ × V))(k:κ):List (κ × V):=kvs.filter fun kv=>decide (kv.1≠k)
theorem qi{p:κ × V}{r:List (κ × V)}{k:κ}(e:p.1=k):jt (p ::r) k=some p.2:=by simp [jt,List.find?_cons,e]
theorem pH{p:κ × V}{r:List (κ × V)}{k:κ}(e:¬p.1=k):jt (p ::r) k=jt r k:=by simp [jt,List.find?_cons,e]
theorem uw(k:κ):∀kvs:List (κ × V),(kvs.any fun kv=>decide (kv.1=k))=(jt kvs k).isSome
 | []=>rfl
 | p ::r=>by
   rw[List.any_cons]
   by_cases e:p.1=k
   ·simp only[qi e,decide_eq_true e,Bool.true_or,Option.isSome_some]
   ·rw[pH e,decide_eq_false e,Bool.false_or];exact uw k r
theorem nL(kvs:List (κ × V))(k:κ)(v:V):(putK kvs k v).length≤kvs.length+1:=by
 unfold putK
 split
 ·rw[List.length_map];omega
 ·rw[List.length_append,List.length_cons,List.length_nil];omega
theorem l4.mK{o:Option V}{u:Option Value}(r:l4 o u):o.isSome=u.isSome:=by
 cases o with
 | none=>cases u with
   | none=>rfl
   | some _=>exact(show False from r).elim
 | some _=>cases u with
   | none=>exact(show False from r).elim
   | some _=>rfl
theorem KV.val{kvs:List (κ × V)}{vs:List (κ × Value)}(r:KV kvs vs)(k:κ):l4 (jt kvs k) (valueAt vs k):=by
 unfold KV at r
 induction r with
 | nil=>exact True.intro
 | @cons p q ps qs h t ih=>
   obtain⟨h1,h2⟩:=h
   by_cases e:p.1=k
   ·have e':q.1=k:=h1.symm.trans e
    have b:valueAt (q ::qs) k=some q.2:=by simp [valueAt,List.find?_cons,e']
    rw[qi e,b];exact h2
   ·have e':¬q.1=k:=fun z=>e (h1.trans z)
    have b:valueAt (q ::qs) k=valueAt qs k:=by simp [valueAt,List.find?_cons,e']
    rw[pH e,b];exact ih
theorem KV.any{kvs:List (κ × V)}{vs:List (κ × Value)}(r:KV kvs vs)(k:κ):(kvs.any fun kv=>decide (kv.1=k))=vs.any fun kv=>decide (kv.1=k):=by
 unfold KV at r
 induction r with
 | nil=>rfl
 | cons h t ih=>rw [List.any_cons,List.any_cons,ih,h.1]
theorem KV.EC{kvs:List (κ × V)}{vs:List (κ × Value)}(r:KV kvs vs)(k:κ){y:V}{u:Value}(ry:RelV y u) :
 KV (kvs.map fun kv=>if kv.1=k then(kv.1,y) else kv) (vs.map fun kv=>if kv.1=k then(kv.1,u) else kv):=by
 unfold KV at r ⊢
 induction r with
 | nil=>exact .nil
 | @cons p q ps qs h t ih=>
   rw[List.map_cons,List.map_cons]
   refine .cons ?_ ih
   obtain⟨h1,h2⟩:=h
   by_cases e:p.1=k
   ·rw[if_pos e,if_pos (h1.symm.trans e)];exact⟨h1,ry⟩
   ·rw[if_neg e,if_neg (fun z=>e (h1.trans z))];exact⟨h1,h2⟩
theorem KV.put{kvs:List (κ × V)}{vs:List (κ × Value)}(r:KV kvs vs)(k:κ){y:V}{u:Value}(ry:RelV y u):KV (putK kvs k y) (stored vs k u):=by
 unfold putK stored
 rw[r.any k]
 by_cases e:(vs.any fun kv=>decide (kv.1=k))=true
 ·rw[if_pos e,if_pos e];exact r.EC k ry
 ·rw[if_neg e,if_neg e];exact Paired.snoc r ⟨rfl,ry⟩
theorem KV.length{kvs:List (κ × V)}{vs:List (κ × Value)}(r:KV kvs vs):kvs.length=vs.length:=Paired.length r
end
theorem By{P:Program}{w:World}{k:Key}{u:Value}(r:RelV (kV k) u):(dc P w).is k u=true:=by
 cases k with
 | inl i=>obtain⟨t,e⟩:=(show ∃t,u=Value.int i t from r);subst e;exact uN P w i t
 | inr x=>obtain⟨t,e⟩:=(show ∃t,u=Value.str x t from r);subst e;exact uk P w x t
theorem qT{P:Program}{w:World}:∀{ks:List Key} {us:List Value},Vals (ks.map kV) us→ItemsAre (dc P w) ks us
 | [],_,r=>by rw[List.map_nil] at r;cases r;exact .nil
 | k ::ks,_,r=>by
   rw[List.map_cons] at r
   cases r with
   | cons h t=>exact .cons (By h) (qT t)
noncomputable abbrev KT(H:Hp):List (List Key × V)→List (List Key × Addr × Value)→Prop:=Paired fun p q=>p.1=q.1∧H q.2.1=some (.tup (p.1.map kV))∧RelV p.2 q.2.2
theorem KT.val{H:Hp}{kvs:List (List Key × V)}{xs:List (List Key × Addr × Value)}(r:KT H kvs xs)(k:List Key):l4 (jt kvs k) ((atKey xs k).map (·.2)):=by
 induction r with
 | nil=>exact True.intro
 | @cons p q ps qs h t ih=>
   obtain⟨h1,_,h2⟩:=h
   by_cases e:p.1=k
   ·have e':q.1=k:=h1.symm.trans e
    have b:atKey (q ::qs) k=some q.2:=by simp [atKey,List.find?_cons,e']
    rw[qi e,b];exact h2
   ·have e':¬q.1=k:=fun z=>e (h1.trans z)
    have b:atKey (q ::qs) k=atKey qs k:=by simp [atKey,List.find?_cons,e']
    rw[pH e,b];exact ih
theorem KT.EC{H:Hp}{kvs:List (List Key × V)}{xs:List (List Key × Addr × Value)}(r:KT H kvs xs)(k:List Key){y:V}{u:Value}(ry:RelV y u) :
 KT H (kvs.map fun kv=>if kv.1=k then(kv.1,y) else kv) (xs.map (putAt k u)):=by
 induction r with
 | nil=>exact .nil
 | @cons p q ps qs h t ih=>
   rw[List.map_cons,List.map_cons]
   refine .cons ?_ ih
   obtain⟨h1,h2,h3⟩:=h
   unfold putAt
   by_cases e:p.1=k
   ·rw[if_pos e,if_pos (h1.symm.trans e)];exact⟨h1,h2,ry⟩
   ·rw[if_neg e,if_neg (fun z=>e (h1.trans z))];exact⟨h1,h2,h3⟩
theorem KT.put{H:Hp}{kvs:List (List Key × V)}{xs:List (List Key × Addr × Value)}(r:KT H kvs xs)(k:List Key){b:Addr}{y:V}{u:Value}(hb:H b=some (.tup (k.map kV)))(ry:RelV y u) :
 KT H (putK kvs k y) (storedH xs k b u):=by
 have e:(kvs.any fun kv=>decide (kv.1=k))=(atKey xs k).isSome:=by
  rw[uw,(r.val k).mK,Option.isSome_map]
 unfold putK storedH
 rw[e]
 by_cases q:(atKey xs k).isSome=true
 ·rw[if_pos q,if_pos q];exact r.EC k ry
 ·rw[if_neg q,if_neg q];exact Paired.snoc r ⟨rfl,hb,ry⟩
theorem KT.keeps{H H':Hp}{kvs:List (List Key × V)}{xs:List (List Key × Addr × Value)}(r:KT H kvs xs)(ht:∀b ys,H b=some (.tup ys)→H' b=some (.tup ys)):KT H' kvs xs:=
 Paired.FE r fun _ _ z=>⟨z.1,ht _ _ z.2.1,z.2.2⟩
section
variable {P:Program} {w:World} {H:Hp} {h:Heap} {a:Addr}
theorem DS{u:HO}(ok:kL P w H h)(e:Rd H a u):c9 P w H h a u:=e.ok ok
theorem Ek{kvs:List (Key × V)}(ok:kL P w H h)(e:Rd H a (.dK kvs)):kvs.length≤sizeLine∧(a==sysModules)=false∧∃vs,KV kvs vs∧h.DictOf (dc P w) a vs:=
 show c9 P w H h a (.dK kvs) from DS ok e
theorem D4{kvs:List (Key × V)}(ok:kL P w H h)(e:H a=some (.dK kvs)):kvs.length≤sizeLine∧(a==sysModules)=false∧∃vs,KV kvs vs∧h.DictOf (dc P w) a vs:=Ek ok (.inl e)
theorem vp{ks:List Key}(ok:kL P w H h)(e:H a=some (.tup (ks.map kV))):(tupleKind (dc P w)).is h ks a:=by
 obtain⟨_,its,r,o,h1,h2,n,h3⟩:=(show c9 P w H h a (.tup (ks.map kV)) from ok a _ e)
 exact⟨o,its.toArray,n,h1,h2,h3,by simpa using qT r⟩
theorem DY{kvs:List (List Key × V)}(ok:kL P w H h)(e:Rd H a (.dT kvs)):kvs.length≤sizeLine∧(a==sysModules)=false∧
 ∃xs,KT H kvs xs∧h.DictOfH (tupleKind (dc P w)) a xs:=by
 obtain⟨z,y,xs,r,o,es,ep,h1,h2,h3,h4,h5⟩:=(show c9 P w H h a (.dT kvs) from DS ok e)
 refine⟨z,y,xs,r,o,es,ep,h1,h2,h3,h4,fun x hx=>?_,h5⟩
 have all:∀{l:List (List Key × V)} {m:List (List Key × Addr × Value)},KT H l m→∀x∈m,(tupleKind (dc P w)).is h x.1 x.2.1:=by
  intro l m q
  induction q with
  | nil=>intro x hx;exact nomatch hx
  | @cons p q ps qs hq t ih=>
    intro x hx
    rcases List.mem_cons.mp hx with e | hx
    ·subst e
     exact vp ok (by rw[←hq.1];exact hq.2.1)
    ·exact ih x hx
 exact all r x hx
theorem GR{kvs:List (List Key × V)}(ok:kL P w H h)(e:H a=some (.dT kvs)):kvs.length≤sizeLine∧(a==sysModules)=false∧
 ∃xs,KT H kvs xs∧h.DictOfH (tupleKind (dc P w)) a xs:=DY ok (.inl e)
end
noncomputable def qv(H:Hp)(a:Addr)(y:V)(r:Option V):Prop:=
 (∃kvs k,Rd H a (.dK kvs)∧y=kV k∧r=jt kvs k)∨∃kvs k b,Rd H a (.dT kvs)∧y= .ref b∧H b=some (.tup (k.map kV))∧r=jt kvs k
noncomputable def zj(H:Hp)(a:Addr)(y v:V)(H':Hp):Prop:=
 (∃kvs k,H a=some (.dK kvs)∧y=kV k∧kvs.length < sizeLine∧H'=upd H a (.dK (putK kvs k v)))∨
 ∃kvs k b,H a=some (.dT kvs)∧y= .ref b∧H b=some (.tup (k.map kV))∧kvs.length < sizeLine∧H'=upd H a (.dT (putK kvs k v))
theorem qv.k{H:Hp}{a:Addr}{kvs:List (Key × V)}{k:Key}(e:H a=some (.dK kvs)):qv H a (kV k) (jt kvs k):= .inl ⟨kvs,k, .inl e,rfl,rfl⟩
theorem zj.k{H:Hp}{a:Addr}{kvs:List (Key × V)}{k:Key}{v:V}(e:H a=some (.dK kvs))(hl:kvs.length < sizeLine):zj H a (kV k) v (upd H a (.dK (putK kvs k v))):= .inl ⟨kvs,k,e,rfl,hl,rfl⟩
section
variable {X:Cx} {pins:List (Addr × Obj)} {σ:St} {H:Hp} {s:Shared} {a:Addr} {y v:V} {u r:Value} {o:Option V} {A:Around} {E:Value→Shared→Prop}
theorem Inv.big(I:Inv X pins σ H s):sysModules < s.heap.objs.size:=by
 have h:mainGlobals < s.heap.objs.size:=(I.mod.glob.keeps I.bk).lt
 exact Nat.lt_trans (by decide) h
theorem IQ{Q:Value→Shared→Prop}(hu:A.units+1 < cLine)(I:Inv X pins σ H s)(g:qv H a y o)(ry:RelV y u)(h:∀s',Inv X pins σ H s'→Q (.bool o.isSome) s') :
 wpAny (model X.prog X.w) A (compareOp .In u (.ref a)) Q E s:=by
 rcases g with⟨kvs,k,e,ey,l⟩ | ⟨kvs,k,b,e,ey,eb,l⟩
 ·subst ey
  obtain⟨z,hd,vs,rel,dd⟩:=Ek I.hok e
  refine wpAny_in_of (By ry) hd dd.mapOf ?_
  rw[←(rel.val k).mK,←l]
  exact h _ (I.tok _)
 ·subst ey
  cases(show u=Value.ref b from ry)
  obtain⟨z,hd,xs,rel,dd⟩:=DY I.hok e
  refine wpAny_in_heap (tupleKind_room_in1 hu) (vp I.hok eb) hd dd ?_
  have q:=(rel.val k).mK
  rw[Option.isSome_map] at q
  rw[←q,←l]
  exact h _ (I.tok _)
theorem xv{h':Heap}{t':Nat}{ob:HO}(I:Inv X pins σ H s)(mu:HA (H a))(hs:Heap.SameBut a s.heap h')(he:∃q,h'.get? a=some q)(new:c9 X.prog X.w (upd H a ob) h' a ob) :
 Inv X pins σ (upd H a ob) {s with heap:=h',toks:=t'}:=
 I.write (x:=a) (e:=a) mu (.inl rfl) (fun b q hb z=>(hs.2 b hb).trans z) he new
theorem Gn{P:Program}{w:World}{H':Hp}{h':Heap}{kvs:List (Key × V)}{vs:List (Key × Value)}(z:kvs.length≤sizeLine)(hd:(a==sysModules)=false)(rel:KV kvs vs)(dd:h'.DictOf (dc P w) a vs) :
 c9 P w H' h' a (.dK kvs):=⟨z,hd,vs,rel,dd⟩
theorem zh{H':Hp}{Q:Unit→Shared→Prop}(hu:A.units+1 < cLine)(I:Inv X pins σ H s)(g:zj H a y v H')(ry:RelV y u)(rv:RelV v r)(h:∀s',Inv X pins σ H' s'→Q () s') :
 wpAny (model X.prog X.w) A (setItem (.ref a) u r) Q E s:=by
 rcases g with⟨kvs,k,e,ey,l,eH⟩ | ⟨kvs,k,b,e,ey,eb,l,eH⟩
 ·subst ey eH
  obtain⟨z,hd,vs,rel,dd⟩:=D4 I.hok e
  have hz:vs.length≤sizeLine:=by rw[←rel.length];exact z
  have hl:(putK kvs k v).length≤sizeLine:=by have:=nL kvs k v;omega
  refine wpAny_setItem_pairs (hsz:=hz) (By ry) dd fun h' dd' hs=>h _ ?_
  have he:∃q,h'.get? a=some q:=let⟨q,_,_,hq,_⟩:=dd';⟨q,hq⟩
  exact xv I (by rw[e];exact True.intro) hs he (Gn hl hd (rel.put k rv) dd')
 ·subst ey eH
  cases(show u=Value.ref b from ry)
  obtain⟨z,hd,xs,rel,dd⟩:=GR I.hok e
  have hz:xs.length≤sizeLine:=by rw[←Paired.length rel];exact z
  have hl:(putK kvs k v).length≤sizeLine:=by have:=nL kvs k v;omega
  refine wpAny_setItem_heap (hsz:=hz) (tupleKind_room_in1 hu) (vp I.hok eb) dd fun h' dd' hs=>h _ ?_
  obtain⟨q,es,ep,hq,h2,h3,h4,_,h5⟩:=dd'
  refine xv I (by rw[e];exact True.intro) hs ⟨q,hq⟩ ⟨hl,hd,_,(rel.put k eb rv).keeps fun c ys ec=>?_,q,es,ep,hq,h2,h3,h4,h5⟩
  rw[aT (HU ec e (fun z=>nomatch z))]
  exact ec
end
section
variable {X:Cx} {pins:List (Addr × Obj)} {σ:St} {H:Hp} {s:Shared} {a:Addr} {kvs:List (Key × V)} {k:Key} {u:Value} {A:Around} {E:Value→Shared→Prop}
end
noncomputable def Lm(i:Expr):Prop:=∀ov iv,subscripted i false ov iv=operate [ov,iv] (getItem ov iv)
noncomputable def J4(td ty:TE):TE:=fun σ H Q=>td σ H fun x H1=>ty σ H1 fun y H2=>∃a v,x= .ref a∧qv H2 a y (some v)∧Q v H2
noncomputable def Jr(ty td:TE):TE:=fun σ H Q=>ty σ H fun y H1=>td σ H1 fun x H2=>∃a o,x= .ref a∧qv H2 a y o∧Q (.bl o.isSome) H2
noncomputable def Ik(ty td:TE):TE:=fun σ H Q=>ty σ H fun y H1=>td σ H1 fun x H2=>∃a o,x= .ref a∧qv H2 a y o∧Q (.bl (!o.isSome)) H2
noncomputable def Hz(td ty tv:TE):TS:=fun D σ H=>tv σ H fun v H1=>td σ H1 fun x H2=>ty σ H2 fun y H3=>∃a H4,x= .ref a∧zj H3 a y v H4∧D.nx σ H4
noncomputable def Kn(td ty tv:TE)(rd:V→V→Hp→VK→Prop):TS:=fun D σ H=>td σ H fun x H1=>ty σ H1 fun y H2=>∃a v,x= .ref a∧qv H2 a y (some v)∧
 tv σ H2 fun y2 H3=>rd v y2 H3 fun z H4=>∃H5,zj H4 a y z H5∧D.nx σ H5
noncomputable def J8(td ty:TE):TS:=fun D σ H=>td σ H fun x H1=>ty σ H1 fun y H2=>∃a kvs k,x= .ref a∧H2 a=some (.dK kvs)∧y=kV k∧(jt kvs k).isSome=true∧D.nx σ (upd H2 a (.dK (zB kvs k)))
section
variable {X:Cx} {o i e value:Expr} {pos pos' tpos:Pos} {td ty tv:TE}
theorem GB(hu:X.A.units+1 < cLine)(hi:PE X i ty)(ho:PE X o td):PC X .In i o (Jr ty td):=by
 intro pins s σ H Q I h
 refine dw (hi pins s σ H _ I h) fun iv s1 ⟨y,H1,I1,ry,q1⟩=>dw (ho pins s1 σ H1 _ I1 q1) fun u s2 ⟨x,H2,I2,rx,a,ov,ex,g,q2⟩=>?_
 subst ex
 obtain rfl:u=Value.ref a:=rx
 exact IQ hu I2 g ry fun s3 I3=>⟨.bl ov.isSome,H2,I3,rfl,q2⟩
theorem Ci(hu:X.A.units+1 < cLine)(ho:PE X o td)(hi:PE X i ty)(hv:PE X value tv)(hs:swapsWith value (some (.Subscript o i pos')) pos.line X.env=pure false) :
 PS X (.Assign [.Subscript o i pos'] value pos) (Hz td ty tv):=by
 intro pins s σ H D I h
 refine wpAny_Assign_Subscript (dw (hv pins s σ H _ I h) fun r s1 ⟨v,H1,I1,rv,q1⟩=>dw (ho pins s1 σ H1 _ I1 q1) fun u s2 ⟨x,H2,I2,rx,q2⟩=>dw (hi pins s2 σ H2 _ I2 q2) fun iv s3 ⟨y,H3,I3,ry,a,H4,ex,g,q3⟩=>?_) hs
 subst ex
 obtain rfl:u=Value.ref a:=rx
 exact zh hu I3 g ry rv fun s4 I4=>⟨σ,H4,I4,q3⟩
end
theorem AY{P:Program}{w:World}{H:Hp}(h:Heap)(hb:sysModules < h.objs.size):c9 P w H (h.push {cls:= .type "dict",data:= .dict #[]}) h.objs.size (.dK []):=
 ⟨Nat.zero_le _,beq_eq_false_iff_ne.mpr (Ne.symm (Nat.ne_of_lt hb)),[], .nil,Heap.DictOf.new h⟩
noncomputable def Eu:TE:=fun _ H Q=>∀p,H p=none→Q (.ref p) (upd H p (.dK []))
noncomputable def Jp:TE:=fun _ H Q=>∀p,H p=none→Q (.ref p) (upd H p (.dT []))
section
variable {X:Cx} {pos:Pos}
theorem zy:PE X (.Dict [] [] pos) Eu:=fun pins s σ H Q I h=>
 wpAny_Dict_empty ⟨.ref s.heap.objs.size,_,I.laid (a:=s.heap.objs.size) (o:= .dK []) (t':=s.toks) (fun _ _ q=>Heap.get?_push_of_some _ q) (Nat.le_refl _) (AY s.heap I.big),rfl,h _ (I.hok.fresh (Nat.le_refl _))⟩
end
noncomputable def rZ:List (TE × TE)→St→Hp→(List (V × V)→Hp→Prop)→Prop
 | [],_,H,Q=>Q [] H
 | (tk,tv) ::r,σ,H,Q=>tk σ H fun x H1=>tv σ H1 fun y H2=>rZ r σ H2 fun ps H3=>Q ((x,y) ::ps) H3
noncomputable abbrev VV:List (V × V)→List (Value × Value)→Prop:=Paired fun p q=>RelV p.1 q.1∧RelV p.2 q.2
noncomputable def Ls(X:Cx)(pos:Pos)(keys:List (Option Expr))(values:List Expr)(trs:List (TE × TE)):Prop:=
 ∀(pins:List (Addr × Obj)) (s:Shared) (σ:St) (H:Hp) (Q:List (V × V)→Hp→Prop),Inv X pins σ H s→rZ trs σ H Q→
  wpAny (model X.prog X.w) X.A (evalPairs (pairTrees keys values X.env pos)) (fun vs s'=>∃ps H',Inv X pins σ H' s'∧VV ps vs∧Q ps H') X.xe s
noncomputable def A8(kvs more:List (Key × V)):List (Key × V):=more.foldl (fun acc kv=>putK acc kv.1 kv.2) kvs
noncomputable def J6(trs:List (TE × TE)):TE:=fun σ H Q=>∀p,H p=none→rZ trs σ (upd H p (.dK [])) fun ps H2=>H2 p=some (.dK [])∧∃kvs:List (Key × V),ps=kvs.map (fun kv=>(kV kv.1,kv.2))∧kvs.length≤15∧Q (.ref p) (upd H2 p (.dK (A8 [] kvs)))
structure M1 (X:Cx) (o:Expr) (m:Str) (apos:Pos) (e:Expr) (cpos:Pos):Prop where
 base:attributeBase o m X.env (eval o X.env)=eval o X.env
 few:((backTo cpos (starEach [e] X.env)).all (fun x=>!x.1) && (backToKw cpos (keywordEach [] X.env)).all (fun x=>x.1.isSome)
  && decide (([e]:List Expr).length+([]:List Keyword).length+(if([]:List Keyword).isEmpty then 0 else 1) < 30))=true
 line:(apos.endLine==cpos.line)=true
 trees:backTo cpos (starEach [e] X.env)=[(false,eval e X.env)]
structure M2 (X:Cx) (o:Expr) (m:Str) (apos:Pos) (e f:Expr) (cpos:Pos):Prop where
 base:attributeBase o m X.env (eval o X.env)=eval o X.env
 few:((backTo cpos (starEach [e,f] X.env)).all (fun x=>!x.1) && (backToKw cpos (keywordEach [] X.env)).all (fun x=>x.1.isSome)
  && decide (([e,f]:List Expr).length+([]:List Keyword).length+(if([]:List Keyword).isEmpty then 0 else 1) < 30))=true
 line:(apos.endLine==cpos.line)=true
 trees:backTo cpos (starEach [e,f] X.env)=[(false,eval e X.env),(false,eval f X.env)]
noncomputable def Il(H:Hp)(a:Addr):Prop:=(∃kvs,Rd H a (.dK kvs))∨∃kvs,Rd H a (.dT kvs)
section
variable {X:Cx} {pins:List (Addr × Obj)} {σ:St} {H:Hp} {s:Shared} {a:Addr} {y d:V} {u r:Value} {o:Option V} {A:Around} {E:Value→Shared→Prop}
end
noncomputable def IX(td ty:TE):TE:=fun σ H Q=>td σ H fun x H1=>∃a,x= .ref a∧Il H1 a∧ty σ H1 fun y H2=>∃o,qv H2 a y o∧Q (o.getD .bX) H2
noncomputable def JB(td ty tx:TE):TE:=fun σ H Q=>td σ H fun x H1=>∃a,x= .ref a∧Il H1 a∧ty σ H1 fun y H2=>tx σ H2 fun z H3=>∃o,qv H3 a y o∧Q (o.getD z) H3
noncomputable def Jb(td ty:TE):TE:=fun σ H Q=>td σ H fun x H1=>∃a,x= .ref a∧Il H1 a∧ty σ H1 fun y H2=>∃kvs k v,H2 a=some (.dK kvs)∧y=kV k∧jt kvs k=some v∧Q v (upd H2 a (.dK (zB kvs k)))
noncomputable def IL(td ty tx:TE):TE:=fun σ H Q=>td σ H fun x H1=>∃a,x= .ref a∧Il H1 a∧ty σ H1 fun y H2=>tx σ H2 fun z H3=>∃kvs k,H3 a=some (.dK kvs)∧y=kV k∧
 (∀v,jt kvs k=some v→Q v (upd H3 a (.dK (zB kvs k))))∧(jt kvs k=none→Q z H3)
section
variable {X:Cx} {o e f:Expr} {apos cpos:Pos} {td ty tx:TE}
end
section
variable {X:Cx} {pins:List (Addr × Obj)} {σ:St} {H:Hp} {s:Shared} {a:Addr} {kvs:List (Key × V)} {A:Around} {E:Value→Shared→Prop}
end
section
variable {X:Cx} {pins:List (Addr × Obj)} {σ:St} {H:Hp} {s:Shared} {a:Addr} {y:V} {u:Value} {A:Around} {E:Value→Shared→Prop}
end
end L2
namespace HT
open PySem PyProof.Rows
noncomputable def lexLt:List Int→List Int→Bool
 | [],[]=>false
 | [],_ ::_=>true
 | _ ::_,[]=>false
 | x ::xs,y ::ys=>if x=y then lexLt xs ys else decide (x < y)
section
open PySem.SeqAt
open PySem.AutoSeq1 (wpAny_loadPart')
open PySem.MeetsSeq PySem.MeetsSeq2 PySem.MeetsSeq3
end
section
variable {prog:Program} {w:World} {A:Around} {E:Value→Shared→Prop} {s:Shared}
theorem B9{t b:Addr}{vs ws:List Value}{Q:Value→Shared→Prop}(ht:IsTup s.heap t vs.toArray)(hb:IsTup s.heap b ws.toArray)(hv:vs≠[])
 (h1:ws=[]→Q (.ref t) s) (h2:ws≠[]→Q (.ref s.heap.objs.size) {s with heap:=s.heap.push {cls:= .type "tuple",data:= .seq (vs++ws).toArray}})
 (hsz:vs.length+ws.length≤sizeLine):wpAny (model prog w) A (binaryOp .Add (.ref t) (.ref b)) Q E s:=by
 obtain⟨⟨cls,dd,data,sl⟩,ho,hc,n,hd⟩:=id ht
 obtain⟨⟨cls2,dd2,data2,sl2⟩,ho2,hc2,n2,hd2⟩:=id hb
 simp only at hc hd hc2 hd2
 subst hc hd hc2 hd2
 have e:vs.toArray++ws.toArray=(vs++ws).toArray:=by simp
 by_cases hw:ws=[]
 ·exact concat_meets ⟨_,ho,rfl⟩ ⟨_,ho2,rfl⟩ noFill_tuple_add seq_tuple_add PySem.F.slot_tuple_add PySem.F.entry_tuple_add (PySem.F.args_tuple_add_2 _ _)
   (tuple_addW1 t b vs.toArray ws.toArray n n2 dd dd2 sl sl2 (by simpa using hv) (by simp [hw])) ⟨ho,ho2,h1 hw⟩
 ·refine concat_meets ⟨_,ho,rfl⟩ ⟨_,ho2,rfl⟩ noFill_tuple_add seq_tuple_add PySem.F.slot_tuple_add PySem.F.entry_tuple_add (PySem.F.args_tuple_add_2 _ _)
   (tuple_addW2 t b vs.toArray ws.toArray n n2 dd dd2 sl sl2 (by simpa using hv) (by simpa using hw) (by rw[List.size_toArray,List.size_toArray];exact hsz)) ⟨ho,ho2,?_⟩
  rw[e]
  exact h2 hw
noncomputable def oh(n d:Nat):Option Int→Nat
 | none=>d
 | some v=>if v < 0 then(v+(n:Int)).toNat else min v.toNat n
theorem oX(n d:Nat):oh n d none=d:=rfl
theorem om(n d k:Nat):oh n d (some (k:Int))=min k n:=by
 show(if(k:Int) < 0 then((k:Int)+(n:Int)).toNat else min (k:Int).toNat n)=min k n
 rw[if_neg (by omega),Int.toNat_natCast]
end
end HT
namespace L2
open PySem PySem.Spec PyProof.Rows
noncomputable abbrev TO:=St→Hp→(Option Int→Hp→Prop)→Prop
noncomputable def PO(X:Cx)(e:Option Expr)(t:TO):Prop:=
 ∀(pins:List (Addr × Obj)) (s:Shared) (σ:St) (H:Hp) (Q:Option Int→Hp→Prop),Inv X pins σ H s→t σ H Q→
  wpAny (model X.prog X.w) X.A (evalPart e X.env) (fun u s'=>∃o H',Inv X pins σ H' s'∧IsPart u o∧Q o H') X.xe s
noncomputable def Cn:TO:=fun _ H Q=>Q none H
noncomputable def GP(t:TE):TO:=fun σ H Q=>t σ H fun x H1=>∃i,x= .int i∧Q (some i) H1
section
variable {X:Cx} {e:Expr} {te:TE} {lo hi:Option Expr} {tl th:TO} {pos p2:Pos}
theorem ye:PO X none Cn:=by
 intro pins s σ H Q I h
 rw[evalPart_none]
 exact wpAny_pure ⟨none,H,I, .none,h⟩
theorem xJ(h:PE X e te):PO X (some e) (GP te):=by
 intro pins s σ H Q I hw
 rw[evalPart_some]
 refine dw (h pins s σ H _ I hw) fun u s1 ⟨x,H1,I1,r1,q1⟩=>?_
 obtain⟨i,rfl,q⟩:=q1
 obtain⟨t,rfl⟩:=r1
 exact⟨some i,H1,I1, .int i t,q⟩
noncomputable def Et(X:Cx)(r:V→Option Int→Option Int→Hp→VK→Prop):Prop:=
 ∀(pins:List (Addr × Obj)) (s:Shared) (σ:St) (H:Hp) (x:V) (v vl vu:Value) (lo hi:Option Int) (sl:Addr) (Q:VK),Inv X pins σ H s→RelV x v→s.heap.IsSliceOf sl vl vu .none→IsPart vl lo→IsPart vu hi→r x lo hi H Q→
  ∃T id,typeLookup (.type T) "__getitem__"=pure (some (.builtin id))∧s.TypeIs v T∧wpAny (model X.prog X.w) X.A (getItem v (.ref sl)) (EP X pins σ Q) X.xe s
theorem Et.or{r r':V→Option Int→Option Int→Hp→VK→Prop}(h:Et X r)(h':Et X r'):Et X (fun x lo hi H Q=>r x lo hi H Q∨r' x lo hi H Q):=by
 intro pins s σ H x v vl vu lo hi sl Q I rx hs pl pu q
 rcases q with q | q
 ·exact h pins s σ H x v vl vu lo hi sl Q I rx hs pl pu q
 ·exact h' pins s σ H x v vl vu lo hi sl Q I rx hs pl pu q
noncomputable def LO(r:V→Option Int→Option Int→Hp→VK→Prop)(te:TE)(tl th:TO):TE:=fun σ H Q=>te σ H fun x H1=>tl σ H1 fun l H2=>th σ H2 fun u H3=>r x l u H3 Q
theorem oS{r:V→Option Int→Option Int→Hp→VK→Prop}(hr:Et X r)(he:PE X e te)(hl:PO X lo tl)(hu:PO X hi th):PE X (.Subscript e (.Slice lo hi none p2) pos) (LO r te tl th):=by
 intro pins s σ H Q I h
 refine Subscript_ (dw (he pins s σ H _ I h) fun v s1 ⟨x,H1,I1,r1,q1⟩=>?_)
 refine wpAny_Slice (dw (hl pins s1 σ H1 _ I1 q1) fun vl s2 ⟨l,H2,I2,pl,q2⟩=>dw (hu pins s2 σ H2 _ I2 q2) fun vu s3 ⟨u,H3,I3,pu,q3⟩=>?_)
 rw[evalPart_none]
 refine wpAny_pure ?_
 have I4:Inv X pins σ H3 {s3 with heap:=s3.heap.push {cls:= .type "slice",data:= .fields #[vl,vu, .none]}}:=I3.kept (t':=s3.toks) fun b ob q=>Heap.get?_push_of_some _ q
 obtain⟨T,id,hT,ht,hg⟩:=hr pins {s3 with heap:=s3.heap.push {cls:= .type "slice",data:= .fields #[vl,vu, .none]}} σ H3 x v vl vu l u s3.heap.objs.size Q I4 r1 (Heap.IsSliceOf.new ..) pl pu q3
 show wpAny (model X.prog X.w) X.A (subscriptTail e (.Slice lo hi none p2) v (.ref s3.heap.objs.size)) (EP X pins σ Q) X.xe {s3 with heap:=s3.heap.push {cls:= .type "slice",data:= .fields #[vl,vu, .none]}}
 exact tail_any (ops:=[.ref s3.heap.objs.size,v]) ht hT hg (by with_unfolding_all rfl)
noncomputable def vt(xs:List V)(lo hi:Option Int):List V:=(xs.drop (HT.oh xs.length 0 lo)).take (HT.oh xs.length xs.length hi - HT.oh xs.length 0 lo)
theorem um(xs:List V)(lo hi:Option Int):(vt xs lo hi).length≤xs.length:=by
 unfold vt
 rw[List.length_take,List.length_drop]
 omega
noncomputable def LF(K:PySem.W.Frag):V→Option Int→Option Int→Hp→VK→Prop:=fun x lo hi H Q=>∃a xs,x= .ref a∧nH K H a xs∧
 ¬(HT.oh xs.length 0 lo=0∧HT.oh xs.length xs.length hi=xs.length)∧∀p,H p=none→Q (.ref p) (upd H p (.tup (vt xs lo hi)))
noncomputable def K3(K:PySem.W.Frag):R2:=fun x y H Q=>∃a b ns ms,x= .ref a∧y= .ref b∧nH K H a (ns.map V.int)∧nH K H b (ms.map V.int)∧Q (.bl (HT.lexLt ns ms)) H
noncomputable def KA(K:PySem.W.Frag):R2:=fun x y H Q=>∃a b xs ys,x= .ref a∧y= .ref b∧nH K H a xs∧nH K H b ys∧xs≠[]∧xs.length+ys.length≤sizeLine∧
 (ys=[]→Q (.ref a) H)∧(ys≠[]→∀p,H p=none→Q (.ref p) (upd H p (.tup (xs++ys))))
end
end L2
namespace L2
open PySem PySem.Spec PyProof.Rows
noncomputable def qj(n:Nat)(i:Int):Option Nat:=if 0≤i then(if i < n then some i.toNat else none) else if -(n:Int)≤i then some (i+n).toNat else none
noncomputable def nR{α:Type}(xs:List α)(i:Int):Option α:=(qj xs.length i).bind fun j=>xs[j]?
theorem xj{n:Nat}{i:Int}{j:Nat}(h:qj n i=some j):seqIndex? i n=some j∧j < n∧ -(n:Int)≤i∧i < n:=by
 unfold qj at h
 by_cases h0:0≤i
 ·rw[if_pos h0] at h
  by_cases h1:i < n
  ·rw[if_pos h1] at h
   have e:i.toNat=j:=Option.some.inj h
   exact⟨by rw[seqIndex_of h0 h1,e],by omega,by omega,h1⟩
  ·rw[if_neg h1] at h;cases h
 ·rw[if_neg h0] at h
  by_cases h1: -(n:Int)≤i
  ·rw[if_pos h1] at h
   have e:(i+n).toNat=j:=Option.some.inj h
   exact⟨by rw[seqIndex_neg (by omega) h1,e],by omega,h1,by omega⟩
  ·rw[if_neg h1] at h;cases h
theorem rX{α:Type}{xs:List α}{i:Int}{v:α}(h:nR xs i=some v):∃j,seqIndex? i xs.length=some j∧xs[j]? =some v∧j < xs.length∧ -(xs.length:Int)≤i∧i < xs.length:=by
 unfold nR at h
 cases e:qj xs.length i with
 | none=>rw [e] at h;cases h
 | some j=>
   rw[e] at h
   obtain⟨h1,h2,h3,h4⟩:=xj e
   exact⟨j,h1,h,h2,h3,h4⟩
noncomputable def ox(b:Expr):Prop:=∀o i,subscripted b false o i=operate [o,i] (getItem o i)
noncomputable def B5(X:Cx)(r:R2):Prop:=
 ∀(value slice:Expr) (pins:List (Addr × Obj)) (s:Shared) (σ:St) (H:Hp) (x y:V) (v u:Value) (Q:VK),Inv X pins σ H s→RelV x v→RelV y u→r x y H Q→
  subscripted slice false v u=operate [v,u] (getItem v u)→wpAny (model X.prog X.w) X.A (subscriptTail value slice v u) (EP X pins σ Q) X.xe s
noncomputable def LH(X:Cx)(id:String)(r:V→List V→Hp→VK→Prop):Prop:=
 ∀(pins:List (Addr × Obj)) (s:Shared) (σ:St) (H:Hp) (x:V) (xs:List V) (v:Value) (us:List Value) (Q:VK),Inv X pins σ H s→RelV x v→Vals xs us→r x xs H Q→
  wpAny (model X.prog X.w) X.A (call (.builtin id) (v ::us)) (EP X pins σ Q) X.xe s
section
variable {X:Cx} {a b:Expr} {ta tb:TE} {pos:Pos}
theorem B5.or{r r':R2}(h:B5 X r)(h':B5 X r'):B5 X (fun x y H Q=>r x y H Q∨r' x y H Q):=by
 intro value slice pins s σ H x y v u Q I rx ry q hs
 rcases q with q | q
 ·exact h value slice pins s σ H x y v u Q I rx ry q hs
 ·exact h' value slice pins s σ H x y v u Q I rx ry q hs
theorem Eb{r:R2}(hr:B5 X r)(ha:PE X a ta)(hb:PE X b tb)(hs:ox b):PE X (.Subscript a b pos) (GL r ta tb):=by
 intro pins s σ H Q I h
 exact Subscript_ (F0 ha hb I h fun v u s2 x y H2 I2 rx ry q=>hr a b pins s2 σ H2 x y v u Q I2 rx ry q (hs _ _))
noncomputable def GX(K:PySem.W.Frag):R2:=fun x y H Q=>∃p xs i v,x= .ref p∧y= .int i∧lR K H p xs∧nR xs i=some v∧Q v H
noncomputable def HG(K:PySem.W.Frag):R2:=fun x y H Q=>∃p xs i v,x= .ref p∧y= .int i∧nH K H p xs∧nR xs i=some v∧Q v H
noncomputable def Hs:R2:=fun x y H Q=>∃z i c,x= .str z∧y= .int i∧z.length≤sizeLine∧nR z.cps.toList i=some c∧Q (.str ⟨#[c]⟩) H
theorem Dw:B5 X (GX X.K):=by
 intro value slice pins s σ H x y v u Q I rx ry h hs
 obtain⟨p,xs,i,z,rfl,rfl,hq,he,q⟩:=h
 cases rx
 obtain⟨t,rfl⟩:=ry
 obtain⟨its,r,pl,hz⟩:=I.list hq
 obtain⟨j,h1,h2,h3,h4,h5⟩:=rX he
 obtain⟨w,ew,rw'⟩:=r.get h2
 have hl:=r.length
 have hn:=mR
 have fin:EP X pins σ Q w s:=⟨z,H,I,rw',q⟩
 by_cases h0:0≤i
 ·have hj:i.toNat=j:=by
   rw[seqIndex_of h0 h5] at h1
   exact Option.some.inj h1
  exact item_listR pl.isList h0 (by omega) (by rw[hj];simpa using ew) fin hs
 ·have hj:(i+(its.toArray.size:Int)).toNat=j:=by
   rw[seqIndex_neg (by omega) h4] at h1
   rw[List.size_toArray,←hl]
   exact Option.some.inj h1
  exact subscriptTail_builtinR (x:=w) pl.isList.typeIs slot_list_getitem.lookup
   (wpAny_getItem_list_neg (Q:=fun r s'=>r=w∧EP X pins σ Q r s') pl.isList (by omega) (by rw[List.size_toArray] <;> omega) (by omega) (by rw[hj];simpa using ew) ⟨rfl,fin⟩) hs
theorem EH:B5 X (HG X.K):=by
 intro value slice pins s σ H x y v u Q I rx ry h hs
 obtain⟨p,xs,i,z,rfl,rfl,hq,he,q⟩:=h
 cases rx
 obtain⟨t,rfl⟩:=ry
 obtain⟨its,r,pl,hz⟩:=I.tuple hq
 obtain⟨j,h1,h2,h3,h4,h5⟩:=rX he
 obtain⟨w,ew,rw'⟩:=r.get h2
 have hl:=r.length
 have hn:=mR
 have fin:EP X pins σ Q w s:=⟨z,H,I,rw',q⟩
 exact subscriptTail_builtinR (x:=w) pl.typeIs slot_tuple_getitem.lookup
  (getItem_tuple (j:=j) (Q:=fun r s'=>r=w∧EP X pins σ Q r s') pl (by omega) (by omega) (by rw[List.size_toArray,←hl];exact h1) (by simpa using ew) ⟨rfl,fin⟩) hs
theorem GG:B5 X Hs:=by
 intro value slice pins s σ H x y v u Q I rx ry h hs
 obtain⟨z,i,c,rfl,rfl,hz,he,q⟩:=h
 obtain⟨t,rfl⟩:=rx
 obtain⟨t',rfl⟩:=ry
 obtain⟨j,h1,h2,h3,h4,h5⟩:=rX he
 have hl:z.cps.toList.length=z.length:=by simp [Str.length]
 rw[hl] at h1 h4 h5
 have hn:=mR
 exact tail_any (typeIs_str s z t) slot_str_getitem.lookup (getItem_str (c:=c) (by
  have e1:decide (i < -(2 ^ 63:Int))=false:=decide_eq_false (by omega)
  have e2:decide (i≥2 ^ 63)=false:=decide_eq_false (by omega)
  rw[e1,e2,Bool.or_false]) (by rw[h1];simpa using h2) ⟨.str ⟨#[c]⟩,H,I.tok _,⟨_,rfl⟩,q⟩) hs
noncomputable def Jf(K:PySem.W.Frag):R2:=fun x y H Q=>GX K x y H Q∨HG K x y H Q∨Hs x y H Q
theorem A2:B5 X (Jf X.K):=Dw.or (EH.or GG)
theorem w6(its:List Value)(n j:Nat)(u:Value):Obj.mapSeq (·.setIfInBounds j u) {cls:= .type "list",data:= .seq its.toArray n}={cls:= .type "list",data:= .seq (its.set j u).toArray n}:=by
 simp [Obj.mapSeq]
theorem Inv.lst{pins:List (Addr × Obj)}{σ:St}{H:Hp}{s:Shared}{p:Addr}{xs:List V}(I:Inv X pins σ H s)(h:H p=some (.lst xs)) :
 ∃(its:List Value) (n:Nat),Vals xs its∧s.heap.get? p=some {cls:= .type "list",data:= .seq its.toArray n}∧xs.length≤sizeLine:=by
 obtain⟨z,its,n,r,e⟩:=I.hok p _ h
 exact⟨its,n,r,e,z⟩
theorem Inv.Gv{pins:List (Addr × Obj)}{σ:St}{H:Hp}{s:Shared}{p:Addr}{xs ys:List V}{its its':List Value}{n n':Nat}{f:Obj→Obj}(I:Inv X pins σ H s)(h:H p=some (.lst xs))
 (ho:s.heap.get? p=some {cls:= .type "list",data:= .seq its.toArray n}) (hf:f {cls:= .type "list",data:= .seq its.toArray n}={cls:= .type "list",data:= .seq its'.toArray n'}) (r:Vals ys its') (hz:ys.length≤sizeLine) (t:Nat) :
 Inv X pins σ (upd H p (.lst ys)) {s with heap:=s.heap.update p f,toks:=t}:=by
 have e:(s.heap.update p f).get? p=some {cls:= .type "list",data:= .seq its'.toArray n'}:=by
  rw[Heap.get?_update_self f ho (by rw[hf] <;> rfl),hf]
 refine I.write (x:=p) (e:=p) (by rw[h];trivial) (.inl rfl) (fun b u hb q=>(Heap.get?_update_other _ _ (Ne.symm hb)).trans q) ⟨_,e⟩ ?_
 exact⟨hz,its',n',r,e⟩
noncomputable def Eg:V→V→V→Hp→(Hp→Prop)→Prop:=fun o i v H Q=>∃p xs k j,o= .ref p∧i= .int k∧H p=some (.lst xs)∧qj xs.length k=some j∧Q (upd H p (.lst (xs.set j v)))
theorem set_list:HX X Eg:=by
 intro pins s σ H o i v ov iv u Q I ro ri rv h
 obtain⟨p,xs,k,j,rfl,rfl,hp,hj,q⟩:=h
 cases ro
 obtain⟨t,rfl⟩:=ri
 obtain⟨its,n,r,ho,hz⟩:=I.lst hp
 obtain⟨h1,h2,h3,h4⟩:=xj hj
 have hl:=r.length
 have hn:=mR
 have I':Inv X pins σ (upd H p (.lst (xs.set j v))) {s with heap:=s.heap.update p (Obj.mapSeq (·.setIfInBounds j u))}:=
  I.Gv hp ho (w6 its n j u) (r.set rv j) (by rw[List.length_set];exact hz) s.toks
 by_cases h0:0≤k
 ·have hk:k.toNat=j:=by
   rw[seqIndex_of h0 h4] at h1
   exact Option.some.inj h1
  exact PySem.W.ki_setAt ho h0 (by omega) (by rw[List.size_toArray,←hl];exact h4) (by rw[hk];exact⟨_,I',q⟩)
 ·have hk:(k+(its.toArray.size:Int)).toNat=j:=by
   rw[seqIndex_neg (by omega) h3] at h1
   rw[List.size_toArray,←hl]
   exact Option.some.inj h1
  exact PySem.W.ki_setBack ho (by omega) (by rw[List.size_toArray,←hl];exact h3) (by omega) (by rw[hk];exact⟨_,I',q⟩)
theorem s_(lo hi:Option Int)(n:Nat):(sliceBounds lo hi none n).1=((HT.oh n 0 lo:Nat):Int)∧(sliceBounds lo hi none n).2.1=((HT.oh n n hi:Nat):Int)∧(sliceBounds lo hi none n).2.2=1:=by
 refine⟨?_,?_,rfl⟩
 ·cases lo with
  | none=>simp [sliceBounds,HT.oh]
  | some i=>
    simp only[sliceBounds,HT.oh,Option.getD_none,show(1:Int) > 0 by decide,if_true]
    by_cases h:i < 0
    ·simp only[h,if_true] <;> omega
    ·simp only[h,if_false] <;> omega
 ·cases hi with
  | none=>simp [sliceBounds,HT.oh]
  | some i=>
    simp only[sliceBounds,HT.oh,Option.getD_none,show(1:Int) > 0 by decide,if_true]
    by_cases h:i < 0
    ·simp only[h,if_true] <;> omega
    ·simp only[h,if_false] <;> omega
theorem qE(its:List Value)(lo hi:Option Int):slicePick its.toArray lo hi none=((its.drop (HT.oh its.length 0 lo)).take (HT.oh its.length its.length hi - HT.oh its.length 0 lo)).toArray:=by
 obtain⟨h1,h2,h3⟩:=s_ lo hi its.toArray.size
 unfold slicePick
 rw[h1,h2,h3]
 simp only[sliceRange_one,pick_run,List.size_toArray] <;> rfl
noncomputable def Jz(K:PySem.W.Frag):V→Option Int→Option Int→Hp→VK→Prop:=fun x lo hi H Q=>∃a xs,x= .ref a∧lR K H a xs∧∀p,H p=none→Q (.ref p) (upd H p (.lst (vt xs lo hi)))
theorem sM:Et X (Jz X.K):=by
 intro pins s σ H x v vl vu lo hi sl Q I rx hs pl pu h
 obtain⟨a,xs,rfl,hx,q⟩:=h
 cases rx
 obtain⟨its,r,ht,hz⟩:=I.list hx
 have hlen:=r.length
 refine⟨"list",_,slot_list_getitem.lookup,ht.isList.typeIs,?_⟩
 refine wpAny_getItem_list_slice ht.isList hs pl pu .none (by simp) ?_ (by rw[List.size_toArray] <;> omega)
 rw[qE,←hlen]
 refine⟨.ref s.heap.objs.size,_,I.laid (t':=s.toks) (o:= .lst (vt xs lo hi)) (fun b ob q=>Heap.get?_push_of_some _ q) (Nat.le_refl _) ?_,rfl,q _ (I.hok.fresh (Nat.le_refl _))⟩
 exact⟨Nat.le_trans (um xs lo hi) hz,_,0,(r.drop (HT.oh xs.length 0 lo)).take (HT.oh xs.length xs.length hi - HT.oh xs.length 0 lo),Heap.get?_push_size _ rfl⟩
noncomputable def jK:V→Bool
 | .bX=>true
 | .bl _=>true
 | .int _=>true
 | .str _=>true
 | _=>false
noncomputable def D7:V→V→Bool
 | .bX, .bX=>true
 | .bl a, .bl b=>a==b
 | .bl a, .int b=>(if a then 1 else 0)==b
 | .int a, .bl b=>a==(if b then 1 else 0)
 | .int a, .int b=>a==b
 | .str a, .str b=>a==b
 | _,_=>false
theorem Fj{A:Around}{s:Shared}{y x:V}{u v:Value}(ry:RelV y u)(rx:RelV x v)(fy:jK y=true)(fx:jK x=true):SeqAt.EqAt A s u v (D7 y x):=by
 cases y with
 | bX=>
   cases ry
   cases x with
   | bX=>cases rx;exact SeqAt.EqAt.same _
   | bl b=>cases rx;exact SeqAt.EqAt.none_bool b
   | int b=>obtain⟨t,rfl⟩:=rx;exact SeqAt.EqAt.none_int b t
   | str b=>obtain⟨t,rfl⟩:=rx;exact SeqAt.EqAt.none_str b t
   | _=>exact absurd (show false=true from fx) Bool.false_ne_true
 | bl a=>
   cases ry
   cases x with
   | bX=>cases rx;exact SeqAt.EqAt.bool_none a
   | bl b=>cases rx;exact SeqAt.EqAt.bool_bool a b
   | int b=>obtain⟨t,rfl⟩:=rx;exact SeqAt.EqAt.bool_int a b t
   | str b=>obtain⟨t,rfl⟩:=rx;exact SeqAt.EqAt.bool_str a b t
   | _=>exact absurd (show false=true from fx) Bool.false_ne_true
 | int a=>
   obtain⟨t',rfl⟩:=ry
   cases x with
   | bX=>cases rx;exact SeqAt.EqAt.int_none a t'
   | bl b=>cases rx;exact SeqAt.EqAt.int_bool a t' b
   | int b=>obtain⟨t,rfl⟩:=rx;exact SeqAt.EqAt.int_int a t' b t
   | str b=>obtain⟨t,rfl⟩:=rx;exact SeqAt.EqAt.int_str a t' b t
   | _=>exact absurd (show false=true from fx) Bool.false_ne_true
 | str a=>
   obtain⟨t',rfl⟩:=ry
   cases x with
   | bX=>cases rx;exact SeqAt.EqAt.str_none a t'
   | bl b=>cases rx;exact SeqAt.EqAt.str_bool a t' b
   | int b=>obtain⟨t,rfl⟩:=rx;exact SeqAt.EqAt.str_int a t' b t
   | str b=>obtain⟨t,rfl⟩:=rx;exact SeqAt.EqAt.str_str a t' b t
   | _=>exact absurd (show false=true from fx) Bool.false_ne_true
 | _=>exact absurd (show false=true from fy) Bool.false_ne_true
noncomputable def vT(x:V)(u:Value):Bool:=match u with
 | .none=>D7 .bX x
 | .bool b=>D7 (.bl b) x
 | .int i _=>D7 (.int i) x
 | .str z _=>D7 (.str z) x
 | _=>false
theorem zE{x y:V}{u:Value}(r:RelV y u)(f:jK y=true):vT x u=D7 y x:=by
 cases y with
 | bX=>cases r;rfl
 | bl b=>cases r;rfl
 | int i=>obtain⟨t,rfl⟩:=r;rfl
 | str z=>obtain⟨t,rfl⟩:=r;rfl
 | _=>exact absurd (show false=true from f) Bool.false_ne_true
theorem l0{x:V}:∀{xs:List V} {us:List Value},Vals xs us→xs.all jK=true→us.any (vT x)=xs.any fun y=>D7 y x
 | _,_, .nil,_=>rfl
 | y ::xs,u ::us, .cons r t,f=>by
   rw[List.all_cons,Bool.and_eq_true] at f
   rw[List.any_cons,List.any_cons,zE r f.1,l0 t f.2]
theorem kj{A:Around}{s:Shared}{x:V}{v:Value}(rx:RelV x v)(fx:jK x=true):∀{xs:List V} {us:List Value},Vals xs us→xs.all jK=true→∀u∈us,SeqAt.EqAt A s u v (vT x u)
 | _,_, .nil,_=>fun u hu=>by cases hu
 | y ::xs,u ::us, .cons r t,f=>fun u' hu=>by
   rw[List.all_cons,Bool.and_eq_true] at f
   rcases List.mem_cons.mp hu with rfl | hu
   ·rw[zE r f.1];exact Fj r rx f.1 fx
   ·exact kj rx fx t f.2 u' hu
noncomputable def Eh(x:V)(xs:List V):Bool:=xs.any fun y=>D7 y x
noncomputable def Jo(K:PySem.W.Frag)(neg:Bool):R2:=fun x y H Q=>∃p xs,y= .ref p∧(lR K H p xs∨nH K H p xs)∧jK x=true∧xs.all jK=true∧Q (.bl (if neg then !Eh x xs else Eh x xs)) H
theorem yK:jG X (compareOp .In) (Jo X.K false):=by
 intro pins s σ H x y v u Q I rx ry h
 obtain⟨p,xs,rfl,hq,fx,fs,q⟩:=h
 cases ry
 rcases hq with hq | hq
 ·obtain⟨its,r,pl,hz⟩:=I.list hq
  refine SeqAt.in_listAt (vT x) pl.isList (fun w hw=>kj rx fx r fs w (by simpa using hw)) ⟨.bl _,H,I,rfl,?_⟩
  rw[show its.toArray.any (vT x)=its.any (vT x) by simp,l0 r fs]
  exact q
 ·obtain⟨its,r,pl,hz⟩:=I.tuple hq
  refine SeqAt.in_tupleAt (vT x) pl (fun w hw=>kj rx fx r fs w (by simpa using hw)) ⟨.bl _,H,I,rfl,?_⟩
  rw[show its.toArray.any (vT x)=its.any (vT x) by simp,l0 r fs]
  exact q
theorem sZ:jG X (compareOp .NotIn) (Jo X.K true):=by
 intro pins s σ H x y v u Q I rx ry h
 obtain⟨p,xs,rfl,hq,fx,fs,q⟩:=h
 cases ry
 rcases hq with hq | hq
 ·obtain⟨its,r,pl,hz⟩:=I.list hq
  refine SeqAt.notIn_listAt (vT x) pl.isList (fun w hw=>kj rx fx r fs w (by simpa using hw)) ⟨.bl _,H,I,rfl,?_⟩
  rw[show its.toArray.any (vT x)=its.any (vT x) by simp,l0 r fs]
  exact q
 ·obtain⟨its,r,pl,hz⟩:=I.tuple hq
  refine SeqAt.notIn_tupleAt (vT x) pl (fun w hw=>kj rx fx r fs w (by simpa using hw)) ⟨.bl _,H,I,rfl,?_⟩
  rw[show its.toArray.any (vT x)=its.any (vT x) by simp,l0 r fs]
  exact q
theorem sN:jH X (.type "list") (fun xs H Q=>∃p ys,xs=[.ref p]∧(lR X.K H p ys∨nH X.K H p ys)∧∀l,H l=none→Q (.ref l) (upd H l (.lst ys))):=by
 intro pins s σ H xs us Q I r h
 obtain⟨p,ys,rfl,hq,q⟩:=h
 obtain⟨u,rfl,rx⟩:=vals1 r
 cases rx
 have fin:∀(its:List Value),Vals ys its→ys.length≤sizeLine→∀(h':Heap) (c':Nat),(∀b o',s.heap.get? b=some o'→h'.get? b=some o')→
  h'.get? s.heap.objs.size=some {cls:= .type "list",dict:=none,data:= .seq its.toArray c',slots:=#[]}→EP X pins σ Q (.ref s.heap.objs.size) {s with heap:=h'}:=fun its r' hz h' c' kp e=>
  ⟨.ref s.heap.objs.size,_,I.laid (t':=s.toks) kp (Nat.le_refl _) (show c9 X.prog X.w _ h' _ (.lst ys) from⟨hz,its,c',r',e⟩),rfl,q _ (I.hok.fresh (Nat.le_refl _))⟩
 rcases hq with hq | hq
 ·obtain⟨its,r',pl,hz⟩:=I.list hq
  have hlen:=r'.length
  obtain⟨o,ho,hc,n,hd⟩:=pl.isList
  exact call_list_seq p (.inl rfl) ho hc hd (fun h' c' kp e=>fin its r' hz h' c' kp e) (by simp only[List.size_toArray] <;> omega)
 ·obtain⟨its,r',pl,hz⟩:=I.tuple hq
  have hlen:=r'.length
  obtain⟨o,ho,hc,n,hd⟩:=pl
  exact call_list_seq p (.inr rfl) ho hc hd (fun h' c' kp e=>fin its r' hz h' c' kp e) (by simp only[List.size_toArray] <;> omega)
theorem qy:jH X (.type "tuple") (fun xs H Q=>∃p ys,xs=[.ref p]∧((lR X.K H p ys∧∀l,H l=none→Q (.ref l) (upd H l (.tup ys)))∨(nH X.K H p ys∧Q (.ref p) H))):=by
 intro pins s σ H xs us Q I r h
 obtain⟨p,ys,rfl,h⟩:=h
 obtain⟨u,rfl,rx⟩:=vals1 r
 cases rx
 rcases h with⟨hq,q⟩ | ⟨hq,q⟩
 ·obtain⟨its,r',pl,hz⟩:=I.list hq
  have hlen:=r'.length
  refine call_tuple_list pl.isList (fun h' kp=>?_) (by simp only[List.size_toArray] <;> omega)
  have I1:Inv X pins σ H {s with heap:=h'}:=I.kept (t':=s.toks) kp
  have I2:Inv X pins σ (upd H h'.objs.size (.tup ys)) {s with heap:=h'.push {cls:= .type "tuple",data:= .seq its.toArray}}:=
   I1.laid (t':=s.toks) (fun b o e=>Heap.get?_push_of_some _ e) (Nat.le_refl _) (show c9 X.prog X.w _ _ _ (.tup ys) from⟨hz,its,r',IsTup.new _ _⟩)
  exact⟨.ref h'.objs.size,_,I2,rfl,q _ (I1.hok.fresh (Nat.le_refl _))⟩
 ·obtain⟨its,r',pl,hz⟩:=I.tuple hq
  exact call_tuple_same pl ⟨.ref p,H,I,rfl,q⟩
noncomputable def Jv(K:PySem.W.Frag)(T:String)(x:V)(H:Hp):Prop:=match x with
 | .str _=>T="str"
 | .int _=>T="int"
 | .ref p=>(T="list"∧∃xs,lR K H p xs)∨(T="tuple"∧∃o,K.lookup p=some o∧o.cls= .type "tuple"∧o.dict=none)∨
    (T="dict"∧((∃kvs,H p=some (.dK kvs))∨∃kvs,H p=some (.dT kvs)))∨(T="set"∧∃S n,H p=some (.set S n))
 | _=>False
theorem EY{pins:List (Addr × Obj)}{σ:St}{H:Hp}{s:Shared}{T:String}{x:V}{v:Value}(I:Inv X pins σ H s)(r:RelV x v)(ty:Jv X.K T x H) :
 s.TypeIs v T∧∀a,v= .ref a→∃ob,s.heap.get? a=some ob∧ob.dict=none:=by
 cases x with
 | str z=>
   obtain⟨t,rfl⟩:=r
   cases(show T="str" from ty)
   exact⟨typeIs_str s z t,fun _ e=>nomatch e⟩
 | int i=>
   obtain⟨t,rfl⟩:=r
   cases(show T="int" from ty)
   exact⟨typeIs_int s i t,fun _ e=>nomatch e⟩
 | ref p=>
   cases r
   rcases ty with⟨rfl,xs,hq⟩ | ⟨rfl,o,hk,hc,hd⟩ | ⟨rfl,hk⟩ | ⟨rfl,S,n,hk⟩
   ·obtain⟨its,_,pl,_⟩:=I.list hq
    refine⟨pl.isList.typeIs,fun a e=>?_⟩
    cases e
    obtain⟨o,n,e,c,hd,_⟩:=pl
    exact⟨o,e,hd⟩
   ·refine⟨⟨o,I.mQ p o hk,hc⟩,fun a e=>?_⟩
    cases e
    exact⟨o,I.mQ _ o hk,hd⟩
   ·have z:∃o,s.heap.get? p=some o∧o.ExactDict:=by
     rcases hk with⟨kvs,hk⟩ | ⟨kvs,hk⟩
     ·obtain⟨_,_,_,_,o,_,_,e,ex,_⟩:=I.hok p _ hk
      exact⟨o,e,ex⟩
     ·obtain⟨_,_,_,_,o,_,_,e,ex,_⟩:=I.hok p _ hk
      exact⟨o,e,ex⟩
    obtain⟨o,e,ex⟩:=z
    refine⟨⟨o,e,ex.1⟩,fun a e2=>?_⟩
    cases e2
    exact⟨o,e,ex.2.1⟩
   ·obtain⟨o,_,_,_,e,ex,_⟩:=I.hok p _ hk
    refine⟨⟨o,e,ex.1⟩,fun a e2=>?_⟩
    cases e2
    exact⟨o,e,ex.2.1⟩
 | _=>exact False.elim ty
noncomputable def LL(K:PySem.W.Frag)(T:String)(r:V→List V→Hp→VK→Prop)(to:TE):TE:=fun σ H Q=>to σ H fun x H1=>Jv K T x H1∧r x [] H1 Q
noncomputable def Li(K:PySem.W.Frag)(T:String)(r:V→List V→Hp→VK→Prop)(to:TE)(t:TA):TE:=fun σ H Q=>to σ H fun x H1=>Jv K T x H1∧t σ H1 fun xs H2=>r x xs H2 Q
variable {o e:Expr} {es:List Expr} {to:TE} {t:TA} {name:Str} {apos cpos:Pos} {T id:String} {r:V→List V→Hp→VK→Prop}
theorem D5(pa:PlainAttrs T)(slot:Slot T name id)(hty:typeOf (.builtin id)=pure (.type "method_descriptor"))(hm:LH X id r)(ho:PE X o to)(ha:PA X (e ::es) t)
 (hbase:attributeBase o name X.env (eval o X.env)=eval o X.env:=by rfl)
 (hfew:((backTo cpos (starEach (e ::es) X.env)).all (fun x=>!x.1) && (backToKw cpos (keywordEach [] X.env)).all (fun x=>x.1.isSome)
   && decide ((e ::es).length+([]:List Keyword).length+(if([]:List Keyword).isEmpty then 0 else 1) < 30))=true:=by rfl)
 (hline:(apos.endLine==cpos.line)=true:=by rfl) (hs:starEach (e ::es) X.env=(false,eval e X.env) ::starEach es X.env:=by rfl) (hplain:(backTo cpos (starEach es X.env)).any (·.1)=false:=by rfl) :
 PE X (.Call (.Attribute o name apos) (e ::es) [] cpos) (Li X.K T r to t):=by
 intro pins s σ H Q I h
 refine wpAny_Call_method_late hbase hfew hline rfl (dw (ho pins s σ H _ I h) fun v s1 ⟨x,H1,I1,r1,ty,q1⟩=>?_)
 obtain⟨h1,h2⟩:=EY I1 r1 ty
 refine⟨T,id,pa,slot,hty,h1,h2,?_⟩
 have hA:=ha cpos pins s1 σ H1 _ I1 q1
 rw[hs] at hA ⊢
 refine Calls.callWith_builtin (by show(false || (backTo cpos (starEach es X.env)).any (·.1))=false;rw [hplain] <;> rfl) (Calls.evalArgs_plain ?_)
 exact dw hA fun us s2 ⟨vs,H2,I2,r2,q2⟩=>hm pins s2 σ H2 x vs v us Q I2 r1 r2 q2
end
end L2
namespace L2
open PySem PySem.Spec PyProof.Rows
noncomputable def Lz(X:Cx)(id:String)(r:V→List V→Hp→VK→Prop):Prop:=
 ∀(pins:List (Addr × Obj)) (s:Shared) (σ:St) (H:Hp) (x:V) (xs:List V) (v:Value) (us:List Value) (Q:VK),Inv X pins σ H s→RelV x v→Vals xs us→r x xs H Q→
  wpAny (model X.prog X.w) X.A (call (.builtin id) (v ::us)) (EP X pins σ Q) X.xe s
theorem Vals.one:∀{x:V} {us:List Value},Vals [x] us→∃u,us=[u]∧RelV x u
 | _,_, .cons r .nil=>⟨_,rfl,r⟩
theorem Vals.rep{xs:List V}{us:List Value}(h:Vals xs us):∀k:Nat,Vals (List.replicate k xs).flatten (List.replicate k us).flatten
 | 0=> .nil
 | k+1=>by
   rw[List.replicate_succ,List.replicate_succ,List.flatten_cons,List.flatten_cons]
   exact Vals.append h (Vals.rep h k)
theorem foldl_rep(its:List Value):∀(k:Nat) (acc:List Value),
 List.foldl (fun x1 x2=>x1++x2) acc.toArray (List.replicate k its.toArray)=(acc++(List.replicate k its).flatten).toArray
 | 0,acc=>by simp
 | k+1,acc=>by
   have e:acc.toArray++its.toArray=(acc++its).toArray:=by simp
   have e2:(acc++its)++(List.replicate k its).flatten=acc++(List.replicate (k+1) its).flatten:=by
    rw[List.replicate_succ,List.flatten_cons,List.append_assoc]
   rw[←e2,←foldl_rep its k (acc++its),←e,List.replicate_succ,List.foldl_cons]
section
variable {X:Cx} {pins:List (Addr × Obj)} {σ:St} {H:Hp} {s:Shared} {l b:Addr} {xs ys zs:List V}
theorem Inv.JJ{its its':List Value}{n:Nat}{f:Array Value→Array Value}{t':Nat}(I:Inv X pins σ H s)(hH:H l=some (.lst xs))
 (e:s.heap.get? l=some {cls:= .type "list",data:= .seq its.toArray n}) (hf:f its.toArray=its'.toArray) (hv:Vals ys its') (hz:ys.length≤sizeLine) :
 Inv X pins σ (upd H l (.lst ys)) {s with heap:=s.heap.update l (Obj.mapSeq f),toks:=t'}:=by
 have q:=PySem.IsL.update e f
 rw[hf] at q
 refine I.write (x:=l) (e:=l) (by rw[hH];exact trivial) (.inl rfl) (fun b' u hb hu=>(Heap.get?_update_other s.heap (Obj.mapSeq f) (Ne.symm hb)).trans hu) ⟨_,q⟩ ?_
 exact⟨hz,its',_,hv,q⟩
theorem Inv.Ce{its:List Value}{t':Nat}(I:Inv X pins σ H s)(hv:Vals ys its)(hz:ys.length≤sizeLine) :
 Inv X pins σ (upd H s.heap.objs.size (.lst ys)) {s with heap:=s.heap.push {cls:= .type "list",data:= .seq its.toArray},toks:=t'}:=
 I.laid (fun _ _ q=>Heap.get?_push_of_some _ q) (Nat.le_refl _) ⟨hz,its,0,hv,Heap.get?_push_size _ rfl⟩
theorem Inv.fresh(I:Inv X pins σ H s):H s.heap.objs.size=none:=I.hok.fresh (Nat.le_refl _)
theorem Inv.Hl(I:Inv X pins σ H s)(hH:H l=some (.lst xs)):xs.length≤sizeLine∧∃(its:List Value) (n:Nat),Vals xs its∧xs.length=its.length∧s.heap.get? l=some {cls:= .type "list",data:= .seq its.toArray n}:=by
 obtain⟨z,its,n,r,e⟩:=I.hok l _ hH
 exact⟨z,its,n,r,r.length,e⟩
theorem Bm{n:Nat}(h:n≤sizeLine):Builtin.List.listTooLong n=false:=by
 unfold Builtin.List.listTooLong
 exact decide_eq_false (by omega)
end
section
variable {X:Cx}
noncomputable def DB:V→List V→Hp→VK→Prop:=fun x vs H Q=>∃l xs y,x= .ref l∧vs=[y]∧H l=some (.lst xs)∧xs.length < sizeLine∧Q .bX (upd H l (.lst (xs++[y])))
theorem mV:Lz X "list.append" DB:=by
 intro pins s σ H x vs v us Q I rx rv h
 obtain⟨l,xs,y,rfl,rfl,hH,hz,q⟩:=h
 cases rx
 obtain⟨u,rfl,ru⟩:=rv.one
 obtain⟨z,its,n,r,hl,e⟩:=I.Hl hH
 refine call_meets F.slot_list_append ⟨_,e,rfl⟩ F.entry_list_append (F.args_list_append_2 _ _) (PySem.list_append l its.toArray n u (by rw[List.size_toArray];omega)) ⟨e,?_⟩
 refine⟨.bX,_,I.JJ (its':=its++[u]) hH e (by simp) (r.append (.cons ru .nil)) ?_,rfl,q⟩
 rw[List.length_append,List.length_singleton]
 omega
noncomputable def IC:V→List V→Hp→VK→Prop:=fun x vs H Q=>∃l b xs zs,x= .ref l∧vs=[.ref b]∧H l=some (.lst xs)∧H b=some (.lst zs)∧xs.length+zs.length≤sizeLine∧Q .bX (upd H l (.lst (xs++zs)))
noncomputable def KW:V→List V→Hp→VK→Prop:=fun x vs H Q=>∃l xs y,x= .ref l∧vs=[]∧H l=some (.lst xs)∧xs[xs.length - 1]? =some y∧Q y (upd H l (.lst xs.dropLast))
noncomputable def IU:V→List V→Hp→VK→Prop:=fun x vs H Q=>∃l xs i k y,x= .ref l∧vs=[.int i]∧H l=some (.lst xs)∧ -(2 ^ 63)≤i∧i < 2 ^ 63∧seqIndex? i xs.length=some k∧xs[k]? =some y∧Q y (upd H l (.lst (xs.eraseIdx k)))
noncomputable def HW:V→List V→Hp→VK→Prop:=fun x vs H Q=>∃l xs,x= .ref l∧vs=[]∧H l=some (.lst xs)∧Q .bX (upd H l (.lst xs.reverse))
noncomputable def JM:V→List V→Hp→VK→Prop:=fun x vs H Q=>∃l xs,x= .ref l∧vs=[]∧H l=some (.lst xs)∧Q .bX (upd H l (.lst []))
noncomputable def LQ:R2:=fun x y H Q=>∃l b xs zs,x= .ref l∧y= .ref b∧H l=some (.lst xs)∧H b=some (.lst zs)∧xs.length+zs.length≤sizeLine∧∀p,H p=none→Q (.ref p) (upd H p (.lst (xs++zs)))
noncomputable def Je:R2:=fun x y H Q=>∃l k xs,x= .ref l∧y= .int k∧H l=some (.lst xs)∧ -(2 ^ 63)≤k∧k < 2 ^ 63∧xs.length*k.toNat≤sizeLine∧
 ∀p,H p=none→Q (.ref p) (upd H p (.lst (List.replicate k.toNat xs).flatten))
theorem len_rep{α:Type}(xs:List α)(k:Nat):(List.replicate k xs).flatten.length=k*xs.length:=by
 induction k with
 | zero=>simp
 | succ k ih=>rw [List.replicate_succ,List.flatten_cons,List.length_append,ih,Nat.succ_mul,Nat.add_comm]
theorem Fv:jG X (binaryOp .Mult) Je:=by
 intro pins s σ H x y v u Q I rx ry h
 obtain⟨l,k,xs,rfl,rfl,hH,h1,h2,hz,q⟩:=h
 cases rx
 obtain⟨t,rfl⟩:=ry
 obtain⟨z,its,n,r,hl,e⟩:=I.Hl hH
 have hlen:its.toArray.size*k.toNat≤sizeLine:=by rw[List.size_toArray,←hl];exact hz
 have hcap:¬its.toArray.size*k.toNat > (2 ^ 63 - 1) / 8:=by
  have:(sizeLine:Nat)≤(2 ^ 63 - 1) / 8:=by decide
  omega
 have hfit:¬(!Builtin.List.listFitsIndex k)=true:=by
  rw[fitsIndex_both h1 h2]
  exact Bool.false_ne_true
 have hlong:¬Builtin.List.listTooLong (its.toArray.size*k.toNat)=true:=by
  rw[Bm hlen]
  exact Bool.false_ne_true
 have hnew:List.foldl (fun x1 x2=>x1++x2) #[] (List.replicate (if its.toArray.isEmpty=true then 0 else k.toNat) its.toArray)=(List.replicate k.toNat its).flatten.toArray:=by
  have f0:∀m:Nat,List.foldl (fun x1 x2=>x1++x2) #[] (List.replicate m its.toArray)=(List.replicate m its).flatten.toArray:=fun m=>by
   have:=foldl_rep its m []
   rw[List.nil_append] at this
   exact this
  rw[f0]
  cases its with
  | nil=>simp
  | cons a r'=>rw [if_neg (by simp)]
 refine wpAny_binaryOp_repeat_ref (T:="list") (U:="int") (by decide) ⟨_,e,rfl⟩ (fun s'=>typeIs_int s' k t) noFill_list_mul F.fills_int_mul F.slot_int_rmul repeat_list F.slot_int_index.lookup
  (call_meets F.slot_int_rmul (typeIs_int s k t) F.entry_int_rmul (F.args_int_rmul_2 _ _) (int___rmul___int_list k t l its.toArray n)
    ⟨e,rfl,⟨_,e,rfl⟩,call_meets F.slot_list_mul ⟨_,e,rfl⟩ F.entry_list_mul (F.args_list_mul_2 _ _) (AutoListH.list___mul___list_int_3 l its.toArray n k t hfit hcap hlong) ⟨e,?_⟩⟩)
 rw[hnew]
 exact⟨.ref _,_,I.Ce (t':=s.toks) (r.rep k.toNat) (by rw[len_rep,Nat.mul_comm];exact hz),rfl,q _ I.fresh⟩
end
section
variable {prog:Program} {w:World} {A:Around} {E:Value→Shared→Prop} {s:Shared}
set_option maxRecDepth 100000 in
end
section
variable {X:Cx}
end
end L2
namespace Att
open PySem PySem.W PySem.Calls PyProof.Rows
theorem n5{P:Params}{h:Heap}:∀(ns:List Int) (vs:List Value),WellAll P h vs (ns.map WData.int)→IntsAre vs ns:=by
 intro ns
 induction ns with
 | nil=>
   intro vs w
   rw[List.map_nil] at w
   cases w
   exact .nil
 | cons n ns ih=>
   intro vs w
   rw[List.map_cons] at w
   cases w with
   | cons a b=>
     cases a
     exact .cons _ _ (ih _ b)
theorem zf{l:OpenLaw}{n:Nat}(hn:l.most=some n){P:Params}{h:Heap}{args:List WData}{vals:List Value}
 (hpre:l.row.toRowW.claim.pre args=true) (hwl:WellAll P h vals args) :
 ∃a vs ns,vals=[Value.ref a]∧args=[WData.list (ns.map WData.int)]∧h.get? a=some {cls:= .type "list",data:= .seq vs.toArray}∧IntsAre vs ns∧ns.length≤n:=by
 have hsh:WShape.hasAll [] args [.list .int]=true:=(pre_splitW hpre).1
 have hc:l.pre.holds [] {args:=args}=true:=(pre_splitW hpre).2
 obtain⟨d,r,rfl,h1,h2⟩:=hasAllW_cons hsh
 obtain rfl:=hasAllW_nil h2
 obtain⟨xs,rfl,h3⟩:=hasW_list h1
 obtain⟨ns,rfl⟩:=items_int h3
 have hlen:ns.length≤n:=by
  unfold OpenLaw.pre at hc
  have h4:(WTm.not (.lt (.lit (.int (n:Int))) (.len (.arg 0)))).holds [] {args:=[.list (ns.map .int)]}=true:=by
   have h4:=(holds_andW hc).1
   rw[hn] at h4
   exact h4
  have h5:=condW_of h4 (w_not (w_lt w_lit (w_len_list (w_arg rfl))))
  rw[List.length_map] at h5
  refine Nat.le_of_not_lt fun q=>?_
  have q':(n:Int) < ((ns.length:Nat):Int):=by omega
  first
   | (rw [decide_eq_true q'] at h5;exact absurd h5 (by decide))
   | (simp at h5;omega)
 cases hwl with
 | cons w1 w2=>
   cases w2
   cases w1 with
   | list ho hall=>exact⟨_,_,ns,rfl,rfl,ho,n5 ns _ hall,hlen⟩
theorem yY(l:OpenLaw)(args:List WData):l.row.toRowW.claim.post args (.bool true) args=true:=
 postW_of (r:=l.row.toRowW) (X:=(true==true))
  (show WShape.has [] (.bool true) .bool=true by first | rfl | decide | simp [WShape.has,WShape.arms,WShape.armsAll])
  (show(WTm.eq .res (.lit (.bool true))).value [] {args:=args,res:=some (.bool true),after:=args}=some (.bool (true==true)) from w_eq_bool (w_res rfl) w_lit) rfl
theorem uf{l:OpenLaw}{n:Nat}{q:Program}{loose:List Str}{XP:(Str→Option Value)→Heap→Prop}{YP:World→Heap→Prop}{d:DefRec}
 (hn:l.most=some n) (hdf:d.params.defaults=[])
 (call:∀(w:World) (s₀ s₁:Shared) (mg mb:Str→Option Value) (fa:Addr) (o:Obj) (pm cd doc:Value) (a:Addr) (vs:List Value) (ns:List Int),
   Ground q loose [] XP w s₀ mg mb s₁.heap→YP w s₁.heap→
   s₁.heap.get? fa=some o→o.data= .func (docDef d.name d.params d.body d.scope pm cd doc)→s₁.heap.CodeRec cd d.name→mg d.name=some (.ref fa)→
   s₁.heap.get? a=some {cls:= .type "list",data:= .seq vs.toArray}→IntsAre vs ns→ns.length≤n→s₁.gens=#[]→
   codeAny (model l.prog w) callerA (.call (.ref fa) ⟨[.ref a],[]⟩) (fun r s'=>r= .ok (.ret (.bool true))∧OldK s₁.heap s'.heap∧s'.os=s₁.os∧AllBare s'.gens) s₁) :
 WalkO q loose XP YP l.row.toRowW d [] (fun f vs=>PySem.call f vs):=by
 intro w s₀ s₁ mg mb G Y fa o pm cd doc dV kV ho hd hcd hD hmg hg args vals as hpre hlay hrd hwl hlo
 obtain rfl:dV= .none:=Dflts.none hD hdf
 obtain rfl:kV= .none:=Dflts.noKw hD
 obtain⟨a,vs,ns,rfl,rfl,hobj,hints,hlen⟩:=zf hn hpre hwl
 refine enter_call (codeAny_mono (call w s₀ s₁ mg mb fa o pm cd doc a vs ns G Y ho (fd_plain hd) hcd hmg hobj hints hlen hg) fun r s' hq=>?_)
 obtain⟨rfl,h2,h3,h4⟩:=hq
 exact⟨.inl ⟨.bool true, .bool true,[],rfl,fun _=>rfl, .bool true,yY l _,fun _=>⟨List.Pairwise.nil,fun _ hm=>(nomatch hm)⟩⟩,h2,h3,h4⟩
section
variable {prog:Program} {w:World} {A:Around} {E:Value→Shared→Prop} {s:Shared} {K:Frag}
noncomputable def JE(h:Heap):Heap:={h with objs:=#[]}
noncomputable def ledger(h:Heap)(L d:Addr):List (Addr × Obj):=(List.range h.objs.size).filterMap fun a=>if a=L∨a=d then none else(h.get? a).map fun o=>(a,o)
end
end Att
namespace L2
open PySem PySem.Spec PyProof.Rows
theorem qP:∀{vs:List Value} {ns:List Int},IntsAre vs ns→Vals (ns.map V.int) vs
 | _,_, .nil=> .nil
 | _,_, .cons n t h=> .cons ⟨t,rfl⟩ (qP h)
noncomputable def HR(H:Hp):Prop:=∀b,H b=none∨∃o xs,H b=some (.gq o (.lst xs))
end L2
namespace L2
open PySem PySem.Spec PyProof.Rows
noncomputable abbrev gx{K:PySem.W.Frag}{h:Heap}(_:K.In h):PySem.W.Frag:=K
end L2
namespace L2
open PySem PySem.Spec PyProof.Rows
noncomputable def inClass(s:Stmt)(j:Nat):Stmt:=match s with
 | .ClassDef _ _ _ body _ _ _ _ _ _ _=>body.getD j (.Pass ⟨0,0,0,0⟩)
 | _=> .Pass ⟨0,0,0,0⟩
noncomputable def fR(s:Stmt):Arguments:=match s with
 | .FunctionDef _ a _ _ _ _ _ _ _ _=>a
 | _=>{posonlyargs:=[],args:=[],vararg:=none,kwonlyargs:=[],kw_defaults:=[],kwarg:=none,defaults:=[]}
noncomputable def aj(s:Stmt):List Stmt:=match s with
 | .FunctionDef _ _ b _ _ _ _ _ _ _=>b
 | _=>[]
noncomputable def ae(s:Stmt):Scope:=match s with
 | .FunctionDef _ _ _ _ _ _ sc _ _ _=>sc
 | _=>{kind:= .function,names:=[],isGenerator:=false,isCoroutine:=false}
noncomputable abbrev qk:zA:=fun _ _ _ _ _ _=>False
noncomputable abbrev E0:XK:=fun _ _ _=>False
theorem ue{X:Cx}:Passes qk X E0:=fun _ _ _ _ _ _ _ h=>h.elim
structure xQ (K:PySem.W.Frag) (x qual:Str) (st:Stmt) (f:Addr) (fd:FuncData):Prop where
 ex:∃(oc:Value) (od:Option Addr) (kV doc pm:Value) (an:Option Addr) (cdv ct:Value) (osl:Array (Option Value)),
  fd=PySem.W.fnOf x qual (fR st) (aj st) (ae st) .none kV doc pm an cdv ct∧K.lookup f=some ⟨oc,od, .func fd,osl⟩∧PySem.W.codeIn K cdv qual=true
 kp:PySem.W.keepIn K (.ref f)=true
section
variable {P:Program} {w:World} {K:PySem.W.Frag} {mg:Str→Option Value} {base:Heap}
theorem xQ.ok{x qual:Str}{st:Stmt}{f:Addr}{fd:FuncData}{N ps:List Str}{k:Nat}{sp:Sp}(F:xQ K x qual st f fd)(S:bf N ps (ae st))(len:∀vs H Q E,sp vs H Q E→vs.length=ps.length)
 (hbody:∀(cdv:Value) (A:Around) (outer:List Env) (s:Shared) (H:Hp) (vs:List V) (Q:VK) (E:XK),dS k (A.deeper (envOfC qual (ae st) s.heap.objs.size f cdv))→sp vs H Q E→
   ∃t,r9 (pe qk P w K mg base N qual (ae st) f cdv A outer s H E).C3 (aj st) t∧t {nx:=fun _ H'=>Q .bX H',rt:=Q} (start N vs) H):f_ P w K mg base qk (k+1) f fd ps sp:=by
 obtain⟨oc,od,kV,doc,pm,an,cdv,ct,osl,rfl,lk,hcd⟩:=F.ex
 refine HS lk hcd S len fun A outer s H vs Q E hr hsp=>?_
 obtain⟨t,h,q⟩:=hbody cdv A outer s H vs Q E hr hsp
 exact⟨t,h.C3,q⟩
theorem xQ.binds{x qual:Str}{st:Stmt}{f:Addr}{fd:FuncData}{ps:List Str}(F:xQ K x qual st f fd)
 (h:∀(kV doc pm:Value) (an:Option Addr) (cdv ct:Value) (us:List Value),us.length=ps.length→bindArgs (PySem.W.fnOf x qual (fR st) (aj st) (ae st) .none kV doc pm an cdv ct) ⟨us,[]⟩=pure (ps.zip us)):Binds K fd ps []:=by
 obtain⟨oc,od,kV,doc,pm,an,cdv,ct,osl,rfl,lk,hcd⟩:=F.ex
 exact .all (h kV doc pm an cdv ct)
theorem nj{x qual:Str}{st:Stmt}{f:Addr}{oc:Value}{od an:Option Addr}{osl:Array (Option Value)}{kV doc pm cdv ct:Value}(l:K.lookup f=some ⟨oc,od, .func (PySem.W.fnOf x qual (fR st) (aj st) (ae st) .none kV doc pm an cdv ct),osl⟩)
 (c:PySem.W.codeIn K cdv qual=true) (k:PySem.W.keepIn K (.ref f)=true):xQ K x qual st f (PySem.W.fnOf x qual (fR st) (aj st) (ae st) .none kV doc pm an cdv ct):=⟨⟨oc,od,kV,doc,pm,an,cdv,ct,osl,rfl,l,c⟩,k⟩
end
theorem zr{A:Around}{k:Nat}(hr:dS k A):A.units+1 < cLine:=Nat.lt_of_le_of_lt (Nat.add_le_add_left (by decide:1≤64) _) hr.units
section
variable {X:Cx}
end
theorem zc{A B:Prop}(h:B):if false=true then A else B:=by
 rw[if_neg Bool.false_ne_true]
 exact h
theorem y4{A B:Prop}(h:A):if true=true then A else B:=by
 rw[if_pos rfl]
 exact h
noncomputable def aK(H H':Hp):Prop:=∀b o,H b=some o→H' b=some o
theorem aK.refl(H:Hp):aK H H:=fun _ _ h=>h
theorem aK.trans{H H1 H2:Hp}(a:aK H H1)(b:aK H1 H2):aK H H2:=fun c o h=>b c o (a c o h)
theorem aK.free{H H':Hp}(e:aK H H'){l:Addr}(h:H' l=Option.none):H l=Option.none:=by
 cases q:H l with
 | none=>rfl
 | some o=>
   rw[e l o q] at h
   cases h
section
variable {κ:Type} [DecidableEq κ]
end
end L2
end
section
set_option maxRecDepth 100000
set_option maxHeartbeats 4000000
namespace L2
open PySem PySem.Spec PyProof.Rows
noncomputable def kI(cells:List (Str × Addr)):List (Str × NameKind)→List (Str × Addr)→List (Str × Addr)
 | [],acc=>acc
 | (n,k) ::r,acc=>kI cells r (if k==NameKind.free then(n,(cells.lookup n).getD 0) ::acc else acc)
theorem jk{env:Env}:∀(names:List (Str × NameKind)) (acc:List (Str × Addr)),(∀y∈names,y.2= .free→∃c,env.cells.lookup y.1=some c)→
 (forIn names acc fun(x:Str × NameKind) (cs:List (Str × Addr))=>(match x with
   | (name,kind)=>if kind== .free then do let a ←cellOf env name;pure (ForInStep.yield ((name,a) ::cs)) else pure (ForInStep.yield cs):Sem (ForInStep (List (Str × Addr)))))=pure (kI env.cells names acc)
 | [],acc,_=>by simp [kI]
 | (n,k) ::r,acc,h=>by
   rw[List.forIn_cons]
   by_cases hk:k=NameKind.free
   ·subst hk
    obtain⟨c,hc⟩:=h (n, .free) List.mem_cons_self rfl
    have e:cellOf env n=pure c:=by unfold cellOf;rw [hc]
    simp only[beq_self_eq_true,if_true,e,pure_bind,kI,hc,Option.getD_some]
    exact jk r _ fun y hy=>h y (List.mem_cons_of_mem _ hy)
   ·have hb:(k==NameKind.free)=false:=by simpa using hk
    simp only[hb,Bool.false_eq_true,if_false,pure_bind,kI]
    exact jk r _ fun y hy=>h y (List.mem_cons_of_mem _ hy)
theorem jO{env:Env}{scope:Scope}(h:∀y∈scope.names,y.2= .free→∃c,env.cells.lookup y.1=some c):closureFor scope env=pure (kI env.cells scope.names []):=by
 unfold closureFor
 have:=jk (env:=env) scope.names [] h
 simp only[bind_pure]
 exact this
theorem iJ{cells:List (Str × Addr)}:∀(names:List (Str × NameKind)) (acc:List (Str × Addr)) {x:Str} {c:Addr},(kI cells names acc).lookup x=some c→
 acc.lookup x=some c∨((x,NameKind.free)∈names∧c=(cells.lookup x).getD 0)
 | [],acc,x,c,h=> .inl h
 | (n,k) ::r,acc,x,c,h=>by
   rcases iJ r _ h with q | ⟨q1,q2⟩
   ·by_cases hk:k=NameKind.free
    ·subst hk
     simp only[beq_self_eq_true,if_true] at q
     cases hx:x==n with
     | true=>
       have e:x=n:=by simpa using hx
       subst e
       rw[List.lookup_cons,hx] at q
       exact .inr ⟨List.mem_cons_self,(Option.some.inj q).symm⟩
     | false=>
       rw[List.lookup_cons,hx] at q
       exact .inl q
    ·have hb:(k==NameKind.free)=false:=by simpa using hk
     simp only[hb,Bool.false_eq_true,if_false] at q
     exact .inl q
   ·exact .inr ⟨List.mem_cons_of_mem _ q1,q2⟩
theorem uU{cells:List (Str × Addr)}:∀(names:List (Str × NameKind)) (acc:List (Str × Addr)) {x:Str},((x,NameKind.free)∈names∨∃c,acc.lookup x=some c)→∃c,(kI cells names acc).lookup x=some c
 | [],acc,x,h=>by
   rcases h with h | h
   ·simp at h
   ·exact h
 | (n,k) ::r,acc,x,h=>by
   refine uU r _ ?_
   rcases h with h | ⟨c,h⟩
   ·rcases List.mem_cons.mp h with e | e
    ·cases e
     exact .inr ⟨(cells.lookup n).getD 0,by simp [List.lookup_cons]⟩
    ·exact .inl e
   ·by_cases hk:k=NameKind.free
    ·subst hk
     simp only[beq_self_eq_true,if_true]
     cases hx:x==n with
     | true=>exact .inr ⟨(cells.lookup n).getD 0,by rw[List.lookup_cons,hx]⟩
     | false=>exact .inr ⟨c,by rw[List.lookup_cons,hx];exact h⟩
    ·have hb:(k==NameKind.free)=false:=by simpa using hk
     simp only[hb,Bool.false_eq_true,if_false]
     exact .inr ⟨c,h⟩
theorem sx:∀(names:List (Str × NameKind)) (n:Nat) (acc:List (Str × Addr)) {x:Str},(x,NameKind.cell) ∉ names→(cellsFrom n names acc).lookup x=acc.lookup x
 | [],_,_,_,_=>rfl
 | (y,k) ::r,n,acc,x,h=>by
   unfold cellsFrom
   split
   ·rename_i hk
    have hk:k= .cell:=by simpa using hk
    subst hk
    rw[sx r _ _ fun z=>h (List.mem_cons_of_mem _ z),List.lookup_cons]
    cases hx:x==y with
    | true=>
      have e:x=y:=by simpa using hx
      subst e
      exact absurd List.mem_cons_self h
    | false=>rfl
   ·exact sx r _ _ fun z=>h (List.mem_cons_of_mem _ z)
theorem lF:∀(names:List (Str × NameKind)) (n:Nat) (acc:List (Str × Addr)),cellsFrom n names acc=cellsFrom n names []++acc
 | [],_,_=>rfl
 | (y,k) ::r,n,acc=>by
   unfold cellsFrom
   split
   ·rw[lF r (n+1) ((y,n) ::acc),lF r (n+1) [(y,n)],List.append_assoc];rfl
   ·exact lF r n acc
theorem wt{a b:List (Str × Addr)}{x:Str}{c:Addr}(h:(a++b).lookup x=some c):(x,c)∈a∨b.lookup x=some c:=by
 induction a with
 | nil=>exact .inr h
 | cons y r ih=>
   obtain⟨n,v⟩:=y
   rw[List.cons_append,List.lookup_cons] at h
   cases hx:x==n with
   | true=>
     rw[hx] at h
     have e:x=n:=by simpa using hx
     subst e
     cases h
     exact .inl List.mem_cons_self
   | false=>
     rw[hx] at h
     exact(ih h).imp (List.mem_cons_of_mem _) id
theorem j5{a b:List (Str × Addr)}{x:Str}(h:∃c,b.lookup x=some c):∃c,(a++b).lookup x=some c:=by
 induction a with
 | nil=>exact h
 | cons y r ih=>
   rw[List.cons_append,List.lookup_cons]
   cases x==y.1 with
   | true=>exact⟨_,rfl⟩
   | false=>exact ih
theorem tm{a b:List (Str × Addr)}{x:Str}{c:Addr}(h:a.lookup x=some c):∃c,(a++b).lookup x=some c:=by
 induction a with
 | nil=>cases h
 | cons y r ih=>
   rw[List.cons_append,List.lookup_cons]
   rw[List.lookup_cons] at h
   cases hx:x==y.1 with
   | true=>exact⟨_,rfl⟩
   | false=>rw [hx] at h;exact ih h
theorem rG{M:Model}{A:Around}{E:Value→Shared→Prop}{s:Shared}{scope:Scope}{cl:List (Str × Addr)}{qual:Str}{env:Env}{Q:Env→Shared→Prop}(hQ:∀h',h'.Ns s.heap.objs.size (fun _=>none)→(∀b o,s.heap.get? b=some o→h'.get? b=some o)→CellsOk h' (s.heap.objs.size+1) (cellsFrom (s.heap.objs.size+1) scope.names [])→
 Q (newEnv scope s.heap.objs.size env.globals (cellsFrom (s.heap.objs.size+1) scope.names cl) qual none .none (some env) builtinsNs) {s with heap:=h'}) :
 wpAny M A (newFunctionEnv scope env.globals cl [] qual none .none (some env)) Q E s:=by
 simp only[newFunctionEnv,Option.isSome_some,if_true]
 refine wpAny_bind (wpAny_alloc ?_)
 refine wpAny_bind (wpAny_layCells _ (fun name kind cells=>by cases hkc:kind==NameKind.cell <;> simp [hkc]) _ _ _ _ ?_)
 have ok:=cellsFrom_ok scope.names (s.heap.push {cls:= .type "dict",data:= .dict #[]}) (s.heap.objs.size+1) [] ⟨fun _ _ hm=>(nomatch hm),List.Pairwise.nil⟩ (by rw[Heap.size_push];exact Nat.le_refl _)
 rw[Heap.size_push] at ok
 rw[show({s with heap:=s.heap.push {cls:= .type "dict",data:= .dict #[]}}:Shared).heap.objs.size=s.heap.objs.size+1 from Heap.size_push ..]
 rw[List.forIn_nil]
 refine wpAny_bind (wpAny_pure (wpAny_pure ?_))
 exact hQ _ ((Heap.Ns.new s.heap (.type "dict")).keeps (pushCells_keeps _ _)) (fun b o e=>pushCells_keeps _ _ b o (Heap.get?_push_of_some _ e)) ok
noncomputable def bw(X:Cx)(scope:Scope)(N':List Str)(fp:List Addr)(s:Shared)(H:Hp):Cx where
 prog:=X.prog
 w:=X.w
 K:=X.K
 mg:=X.mg
 base:=X.base
 A:=X.A
 N:=N'
 s₀:=s
 H₀:=H
 env:=compEnvC scope (cellsFrom (s.heap.objs.size+1) scope.names (kI X.env.cells scope.names [])) s.heap.objs.size X.env
 outer:=X.stack
 stack:=X.stack
 ex:=fp
 fn:=fun x=>scope.names.lookup x==some .cell
 calm:=X.calm
 pn:=[]
 xe:=fun _ _=>False
structure bM (X:Cx) (scope:Scope) (own:List Str) (kp:List Nat) (kn:List Str):Prop where
 kind:scope.kind= .function
 cel:∀y∈scope.names,y.2= .cell→scope.names.lookup y.1=some .cell
 nd:∀y∈scope.names,y.2= .local→scope.names.lookup y.1=some .local
 free:∀y∈scope.names,y.2= .free→X.env.kindOf y.1=some .cell∨X.env.kindOf y.1=some .free
 frl:∀y∈scope.names,y.2= .free→scope.names.lookup y.1=some .free
 names:kn.length=kp.length
 at_:∀(j i:Nat) (x:Str),kp[j]? =some i→kn[j]? =some x→X.N[i]? =some x
 isfree:∀x∈kn,scope.names.lookup x=some .free
noncomputable def c8(own:List Str)(kp:List Nat)(σ:St):St:=List.replicate own.length none++kp.map fun i=>(σ[i]?).getD none
section
variable {X:Cx} {scope:Scope} {own:List Str} {kp:List Nat} {kn:List Str}
theorem d7{env:Env}:∀{names:List (Str × NameKind)} {x:Str} {k:NameKind},
 (names.map fun(n,k)=>if(k==NameKind.free && env.scope.kind== .function && env.kindOf n==some .cell) then(n,NameKind.cell) else(n,k)).lookup x=some k→
 names.lookup x=some k∨(k= .cell∧names.lookup x=some .free)
 | [],_,_,h=>by simp at h
 | (n,k) ::r,x,k',h=>by
   have ih:=@d7 env r x k'
   have h:List.lookup x ((if(k==NameKind.free && env.scope.kind== .function && env.kindOf n==some .cell)=true then(n,NameKind.cell) else(n,k)) ::_)=some k':=h
   by_cases hc:(k==NameKind.free && env.scope.kind== .function && env.kindOf n==some .cell)=true
   ·rw[if_pos hc] at h
    have hkf:k= .free:=by
     simp only[Bool.and_eq_true,beq_iff_eq] at hc
     exact hc.1.1
    cases hx:x==n with
    | true=>
      rw[List.lookup_cons,hx] at h
      cases h
      exact .inr ⟨rfl,by rw[List.lookup_cons,hx,hkf]⟩
    | false=>
      rw[List.lookup_cons,hx] at h
      rw[List.lookup_cons,hx]
      exact ih h
   ·rw[if_neg hc] at h
    cases hx:x==n with
    | true=>
      rw[List.lookup_cons,hx] at h
      rw[List.lookup_cons,hx]
      exact .inl h
    | false=>
      rw[List.lookup_cons,hx] at h
      rw[List.lookup_cons,hx]
      exact ih h
theorem lB{pins:List (Addr × Obj)}{σ:St}{H:Hp}{s:Shared}(C:bM X scope own kp kn)(I:Inv X pins σ H s):∀y∈scope.names,y.2= .free→∃c,X.env.cells.lookup y.1=some c:=fun y hy hf=>
 I.ok.has y.1 (C.free y hy hf)
theorem BF{pins:List (Addr × Obj)}{σ:St}{H:Hp}{s:Shared}{fp:List Addr}{h₁:Heap}{tk:Nat}(C:bM X scope own kp kn)(I:Inv X pins σ H s)(hf:∀b∈fp,n_ X pins H b)(hb:∀b∈fp,b < s.heap.objs.size)
 (hn:h₁.Ns s.heap.objs.size (fun _=>none)) (hk:∀b o,s.heap.get? b=some o→h₁.get? b=some o) (hC:CellsOk h₁ (s.heap.objs.size+1) (cellsFrom (s.heap.objs.size+1) scope.names [])):Inv (bw X scope (own++kn) fp s H) [] (c8 own kp σ) H {s with heap:=h₁,toks:=tk}:=by
 have cl:∀x c,(kI X.env.cells scope.names []).lookup x=some c→X.env.cells.lookup x=some c:=fun x c e=>by
  rcases iJ scope.names [] e with q | ⟨q1,q2⟩
  ·simp at q
  ·obtain⟨c',hc'⟩:=lB C I (x, .free) q1 rfl
   have hc':X.env.cells.lookup x=some c':=hc'
   rw[hc'] at q2
   rw[hc',q2]
   rfl
 have clA:∀x c,(cellsFrom (s.heap.objs.size+1) scope.names (kI X.env.cells scope.names [])).lookup x=some c→(x,c)∈cellsFrom (s.heap.objs.size+1) scope.names []∨(kI X.env.cells scope.names []).lookup x=some c:=fun x c e=>by
  rw[lF] at e
  exact wt e
 have old:∀x c,(kI X.env.cells scope.names []).lookup x=some c→c < s.heap.objs.size:=fun x c e=>by
  obtain⟨v,h⟩:=I.cell x c (cl x c e)
  exact h.lt
 have new:∀x c,(x,c)∈cellsFrom (s.heap.objs.size+1) scope.names []→s.heap.objs.size≤c:=fun x c e=>Nat.le_of_lt (hC.empty x c e).2
 have clh:∀x,scope.names.lookup x=some .free→∃c,(kI X.env.cells scope.names []).lookup x=some c:=fun x hx=>uU scope.names [] (.inl (PySem.mem_of_lookup hx))
 refine⟨⟨I.ok.mod,C.kind,I.ok.glob,I.ok.blt,Nat.le_refl _,fun x y c h1 h2=>?inj,fun x hx=>?_,fun x c hn h=>?cab,I.ok.hd,I.ok.frames, .inl rfl,fun b hb'=>⟨Nat.ne_of_lt (hb b hb'),fun x c e z=>?exf⟩,
  fun b o e=>I.bs b o e,Nat.le_trans I.ok.bsz I.sz,fun b o e hb'=>?_,fun b hb' hs=>?_,I.stack,I.xA⟩,
  rfl,I.bare,Un.kept hk,⟨_,hn,fun i x v h1 h2 h3=>?_⟩,fun x c e=>?_,I.hok.fresh (Nat.le_refl _),fun x c e=>?frc,fun p hp=>(by cases hp),I.hok.kept hk,?_⟩
 case inj=>
  rcases clA x c h1 with a | a <;> rcases clA y c h2 with b | b
  ·exact name_of_addr hC.apart a b
  ·exact absurd (Nat.lt_of_lt_of_le (old y c b) (new x c a)) (Nat.lt_irrefl _)
  ·exact absurd (Nat.lt_of_lt_of_le (old x c a) (new y c b)) (Nat.lt_irrefl _)
  ·exact I.ok.inj x y c (cl x c a) (cl y c b)
 case cab=>
  have hn:(scope.names.lookup x==some .cell)=true:=hn
  rcases clA x c h with a | a
  ·exact new x c a
  ·rcases iJ scope.names [] a with q | ⟨q1,q2⟩
   ·simp at q
   ·have hx:scope.names.lookup x=some .cell:=by simpa using hn
    have h7:scope.names.lookup x=some .free:=C.frl _ q1 rfl
    rw[hx] at h7;cases h7
 case exf=>
  rcases clA x c e with a | a
  ·subst z;exact absurd (Nat.lt_of_lt_of_le (hb _ hb') (new x _ a)) (Nat.lt_irrefl _)
  ·exact(hf b hb').2.2.2.2.1 x c (cl x c a) z
 case frc=>
  rcases clA x c e with a | a
  ·exact I.hok.fresh (new x c a)
  ·exact I.freeC x c (cl x c a)
 ·have hx:(relabel scope X.env).names.lookup x=some .cell∨(relabel scope X.env).names.lookup x=some .free:=hx
  show ∃c,(cellsFrom (s.heap.objs.size+1) scope.names (kI X.env.cells scope.names [])).lookup x=some c
  rcases hx with hx | hx
  ·rcases d7 hx with q | ⟨_,q⟩
   ·rw[lF];obtain⟨c,hc⟩:=p8 (n:=s.heap.objs.size+1) q;exact tm hc
   ·rw[lF];exact j5 (clh x q)
  ·rcases d7 hx with q | ⟨q,_⟩
   ·rw[lF];exact j5 (clh x q)
   ·cases q
 ·rcases(hf b hb').2.2.2.1 with z | z
  ·exact I.ok.noex b o e z
  ·exact absurd (Nat.lt_of_lt_of_le (Heap.lt_size (I.ok.bs b o e).1) z) (Nat.lt_irrefl _)
 ·rcases List.mem_cons.mp (I.vh b hs) with z | z
  ·exact(hf b hb').2.1 z
  ·exact(hf b hb').2.2.1 z
 ·-- a kept name
  have h1:(own++kn)[i]? =some x:=h1
  have h2:(c8 own kp σ)[i]? =some (some v):=h2
  unfold c8 at h2
  by_cases hi:i < own.length
  ·rw[List.getElem?_append_left (by simpa using hi),List.getElem?_replicate] at h2
   split at h2 <;> cases h2
  ·rw[List.getElem?_append_right (by simpa using hi),List.length_replicate,List.getElem?_map] at h2
   rw[List.getElem?_append_right (by simpa using hi)] at h1
   cases e:kp[i - own.length]? with
   | none=>rw [e] at h2;cases h2
   | some j=>
     rw[e] at h2
     have h2:(σ[j]?).getD none=some v:=Option.some.inj h2
     have hj:X.N[j]? =some x:=C.at_ _ j x e h1
     have hσ:σ[j]? =some (some v):=by
      cases q:σ[j]? with
      | none=>rw [q] at h2;cases h2
      | some y=>rw [q] at h2;exact congrArg some h2
     have hfree:scope.names.lookup x=some .free:=C.isfree x (List.mem_of_getElem? h1)
     have hkind:=C.free (x, .free) (PySem.mem_of_lookup hfree) rfl
     obtain⟨m,hm,hl⟩:=I.loc
     obtain⟨u,r,l⟩:=hl j x v hj hσ (hkind.elim (fun q=>Or.inr (Or.inl q)) fun q=>Or.inr (Or.inr q))
     refine⟨u,r, .inr ⟨?_,?_⟩⟩
     ·have h3:(relabel scope X.env).names.lookup x=some .local∨(relabel scope X.env).names.lookup x=some .cell∨(relabel scope X.env).names.lookup x=some .free:=h3
      rcases h3 with q | q | q
      ·rcases d7 q with z | ⟨z,_⟩
       ·rw[hfree] at z;cases z
       ·cases z
      ·exact .inl q
      ·exact .inr q
     ·rcases l with⟨k,_⟩ | ⟨_,c,hc,hcell⟩
      ·rcases hkind with q | q
       ·rw[show X.env.kindOf x=some .cell from q] at k;cases k
       ·rw[show X.env.kindOf x=some .free from q] at k;cases k
      ·obtain⟨c',hc'⟩:=clh x hfree
       have:=cl x c' hc'
       rw[hc] at this
       cases this
       obtain⟨o,ho,hd⟩:=hcell
       exact⟨c,(sx _ _ _ fun z=>by have:=C.cel _ z rfl;rw [hfree] at this;cases this).trans hc',o,hk c o ho,hd⟩
 ·rcases clA x c e with a | a
  ·exact⟨_,(hC.empty x c a).1⟩
  obtain⟨v,o,ho,hd⟩:=I.cell x c (cl x c a)
  exact⟨v,o,hk c o ho,hd⟩
 ·show(c8 own kp σ).length=(own++kn).length
  unfold c8
  rw[List.length_append,List.length_replicate,List.length_map,List.length_append,C.names]
theorem qg{pins:List (Addr × Obj)}{σ σ':St}{H H':Hp}{s s':Shared}{fp:List Addr}{N':List Str}(I:Inv X pins σ H s)(hf:∀b∈fp,n_ X pins H b)(J:Inv (bw X scope N' fp s H) [] σ' H' s'):Inv X pins σ H' s':=
 I.Hw (ch:=fp) J.os J.base J.hok J.bare fun b hb=>⟨(hf b hb).2.2.2.1,(hf b hb).2.1,(hf b hb).2.2.2.2.1,(hf b hb).2.2.2.2.2⟩
end
noncomputable def mW(X:Cx)(ifs:List Expr)(t:TT):Prop:=
 ∀(pins:List (Addr × Obj)) (s:Shared) (σ:St) (H:Hp) (Q:Bool→Hp→Prop),Inv X pins σ H s→t σ H Q→
  wpAny (model X.prog X.w) X.A (forIn ifs true fun c r=>if r=true then do let ok ←isTrue c X.env (eval c X.env);pure (ForInStep.yield ok) else pure (ForInStep.yield r)) (TP X pins σ Q) X.xe s
noncomputable def II:TT:=fun _ H Q=>Q true H
theorem u0{X:Cx}:mW X [] II:=fun _ _ _ H _ I h=>wpAny_tests_nil ⟨H,I,h⟩
theorem vb{X:Cx}{c:Expr}{t:TT}(h:PT X c t):mW X [c] t:=fun pins s σ H Q I hq=>wpAny_tests_one (h pins s σ H Q I hq)
noncomputable def xg(wi:TI)(g:TG)(tc:TT)(te:TE)(own:List Str)(kp:List Nat):TE:=fun σ H Q=>wi σ H fun J H1=>∀D,H1 D=none→
 ∃W:Nat→Nat→List V→Hp→Prop,(∃m,W 0 m [] (upd H1 D (.lst [])))∧∀i m ys H,W i m ys H→
  (J.stop i H∧Q (.ref D) H)∨(J.go i H∧∀x H',J.yld i H x H'→g x (c8 own kp σ) H' fun σ2 H2=>tc σ2 H2 fun c H3=>
    if c=true then te σ2 H3 fun y H4=>H4 D=some (.lst ys)∧ys.length < sizeLine∧∃m',m' < m∧W (i+1) m' (ys++[y]) (upd H4 D (.lst (ys++[y])))
    else ∃m',m' < m∧W (i+1) m' ys H3)
section
variable {X:Cx} {scope:Scope} {own:List Str} {kp:List Nat} {kn:List Str} {tg iter elt:Expr} {ifs:List Expr} {wi:TI} {g:TG} {tc:TT} {te:TE} {pos:Pos}
theorem uO{pins:List (Addr × Obj)}{σ:St}{H:Hp}{s:Shared}{fp:List Addr}{it D:Addr}{tn:Nat→Heap→Prop}{J:It}{Q:VK}{h₁:Heap}{tk:Nat}{R:Result→Shared→Prop}
 (hc:X.calm=true) (C:bM X scope own kp kn) (I:Inv X pins σ H s) (hf:∀b∈fp,n_ X pins H b) (hb:∀b∈fp,b < s.heap.objs.size) (T:Turn X.prog X.w X.K tg J fp it tn)
 (hg:PG (bw X scope (own++kn) fp s H) tg g) (hi:mW (bw X scope (own++kn) fp s H) ifs tc) (he:PE (bw X scope (own++kn) fp s H) elt te)
 (hn:h₁.Ns s.heap.objs.size (fun _=>none)) (hk:∀b o,s.heap.get? b=some o→h₁.get? b=some o) (hC:CellsOk h₁ (s.heap.objs.size+1) (cellsFrom (s.heap.objs.size+1) scope.names [])) (st:tn 0 s.heap)
 (W:Nat→Nat→List V→Hp→Prop) (w0:∃m,W 0 m [] H)
 (turn:∀i m ys H,W i m ys H→
   (J.stop i H∧Q (.ref D) H)∨(J.go i H∧∀x H',J.yld i H x H'→g x (c8 own kp σ) H' fun σ2 H2=>tc σ2 H2 fun c H3=>
     if c=true then te σ2 H3 fun y H4=>H4 D=some (.lst ys)∧ys.length < sizeLine∧∃m',m' < m∧W (i+1) m' (ys++[y]) (upd H4 D (.lst (ys++[y])))
     else ∃m',m' < m∧W (i+1) m' ys H3))
 (hR:∀H' s' σ',Inv (bw X scope (own++kn) fp s H) [] σ' H' s'→Q (.ref D) H'→R (.ok .next) s') :
 codeAny (model X.prog X.w) X.A (.compStart (.ListComp elt [⟨tg,iter,ifs,0⟩] scope pos) 0 (.ref it) (.ref D) (bw X scope (own++kn) fp s H).env) R {s with heap:=h₁,toks:=tk}:=by
 have I1:Inv (bw X scope (own++kn) fp s H) [] (c8 own kp σ) H {s with heap:=h₁,toks:=tk}:=BF C I hf hb hn hk hC
 have st1:tn 0 h₁:=T.keep _ _ _ st fun b _ o e=>hk b o e
 have fp1:∀{H':Hp} {p:List (Addr × Obj)},(∀b∈fp,H' b=none)→(∀b∈fp,∀q∈p,q.1≠b)→∀b∈fp,n_ (bw X scope (own++kn) fp s H) p H' b:=fun {H' p} hn hp b hb'=>
  ⟨hn b hb',(I1.ok.exf b hb').1,I1.ok.exfs b hb', .inl hb',fun x c e=>(I1.ok.exf b hb').2 x c e,fun q hq=>hp b hb' q hq⟩
 obtain⟨m0,w0⟩:=w0
 have loop:codeAny (model X.prog X.w) X.A (.compLoop (.ListComp elt [⟨tg,iter,ifs,0⟩] scope pos) 0 (.ref it) (.ref D) (bw X scope (own++kn) fp s H).env) R {s with heap:=h₁,toks:=tk}:=by
  refine codeAny_loop rfl (fun n s'=>∃i ys H',Inv (bw X scope (own++kn) fp s H) [] (c8 own kp σ) H' s'∧tn i s'.heap∧(∀b∈fp,H' b=none)∧W i n ys H') (fun n s' hI=>?_) m0 ⟨0,[],H,I1,st1,fun b hb'=>(hf b hb').1,w0⟩
  obtain⟨i,ys,H3,I3,st3,fr3,w3⟩:=hI
  show wpAny _ _ ((compTurn (.ListComp elt [⟨tg,iter,ifs,0⟩] scope pos) 0 (.ref it) (.ref D) (bw X scope (own++kn) fp s H).env).onRaise (fun x=>do noteFrame x (bw X scope (own++kn) fp s H).env;theTreesLotGoes x)) _ _ s'
  refine wpAny_noted (wpAny_noRaise ?_)
  rw[compTurn_list]
  refine wpAny_bind (wpAny_standAt (wpAny_bind ?_))
  rcases turn i n ys H3 w3 with⟨stop,q⟩ | ⟨go,step⟩
  ·refine dw (T.done (bw X scope (own++kn) fp s H) rfl rfl rfl hc i [] s' _ H3 _ I3 (fp1 fr3 (fun _ _ q hq=>by cases hq)) st3 stop) fun r s4 ⟨hr,I4⟩=>?_
   subst hr
   exact wpAny_pure (hR H3 s4 _ I4 q)
  ·refine dw (T.item (bw X scope (own++kn) fp s H) rfl rfl rfl hc i [] s' _ H3 _ I3 (fp1 fr3 (fun _ _ q hq=>by cases hq)) st3 go) fun r s4 ⟨u,hr,h4⟩=>?_
   subst hr
   refine wpAny_bind (dw h4 fun _ s5 ⟨x,H5,I5,r5,y5,st5,fr5⟩=>?_)
   have I5':=I5.pinned (fp1 fr5 (fun _ _ q hq=>by cases hq)) (T.obj _ _ st5)
   have keepIt:∀{σ7:St} {H7:Hp} {s7:Shared},Inv (bw X scope (own++kn) fp s H) ([]++lx fp s5.heap) σ7 H7 s7→tn (i+1) s7.heap∧∀b∈fp,H7 b=none:=fun {σ7 H7 s7} I7=>by
    refine⟨T.keep _ _ _ st5 fun b hb o e=>(I7.pin (b,o) (List.mem_append_right _ (List.mem_append_right _ (jo hb e)))).1,fun b hb=>?_⟩
    obtain⟨o,e,d⟩:=T.obj _ _ st5 b hb
    exact(I7.pin (b,o) (List.mem_append_right _ (List.mem_append_right _ (jo hb e)))).2.1
   have reset:∀{σ7:St} {H7:Hp} {s7:Shared},Inv (bw X scope (own++kn) fp s H) ([]++lx fp s5.heap) σ7 H7 s7→Inv (bw X scope (own++kn) fp s H) [] (c8 own kp σ) H7 s7:=fun {σ7 H7 s7} I7=>by
    have I8:=I7.mz
    have hun:Un (zm X.stack) fp H H7 s.heap s7.heap:=I8.base
    have I9:Inv X pins σ H7 s7:=qg I hf I8
    refine⟨I8.ok,I8.os,I8.bare,I8.base,?_,I8.cell,I8.free,I8.freeC,I8.pin,I8.hok,I1.len⟩
    obtain⟨m,hm,_⟩:=I8.loc
    refine⟨m,hm,fun i x v h1 h2 h3=>?_⟩
    obtain⟨m1,hm1,hl1⟩:=I1.loc
    obtain⟨u1,r1,l1⟩:=hl1 i x v h1 h2 h3
    have h1:(own++kn)[i]? =some x:=h1
    have h2:(c8 own kp σ)[i]? =some (some v):=h2
    unfold c8 at h2
    by_cases hi:i < own.length
    ·rw[List.getElem?_append_left (by simpa using hi),List.getElem?_replicate] at h2
     split at h2 <;> cases h2
    ·rw[List.getElem?_append_right (by simpa using hi),List.length_replicate,List.getElem?_map] at h2
     rw[List.getElem?_append_right (by simpa using hi)] at h1
     cases e:kp[i - own.length]? with
     | none=>rw [e] at h2;cases h2
     | some j=>
       rw[e] at h2
       have h2:(σ[j]?).getD none=some v:=Option.some.inj h2
       have hj:X.N[j]? =some x:=C.at_ _ j x e h1
       have hσ:σ[j]? =some (some v):=by
        cases q:σ[j]? with
        | none=>rw [q] at h2;cases h2
        | some y=>rw [q] at h2;exact congrArg some h2
       have hfree:scope.names.lookup x=some .free:=C.isfree x (List.mem_of_getElem? h1)
       have hkind:=C.free (x, .free) (PySem.mem_of_lookup hfree) rfl
       obtain⟨m9,hm9,hl9⟩:=I9.loc
       obtain⟨u,r,l⟩:=hl9 j x v hj hσ (hkind.elim (fun q=>Or.inr (Or.inl q)) fun q=>Or.inr (Or.inr q))
       refine⟨u,r, .inr ?_⟩
       rcases l1 with⟨k,k2⟩ | ⟨k,c,hc,hcell⟩
       ·have k:(relabel scope X.env).names.lookup x=some .local:=k
        rcases d7 k with z | ⟨z,_⟩
        ·rw[hfree] at z;cases z
        ·cases z
       ·refine⟨k,c,hc,?_⟩
        rcases l with⟨k',_⟩ | ⟨_,c',hc',hcell'⟩
        ·rcases hkind with q | q
         ·rw[show X.env.kindOf x=some .cell from q] at k';cases k'
         ·rw[show X.env.kindOf x=some .free from q] at k';cases k'
        ·have hcl:(kI X.env.cells scope.names []).lookup x=some c:=(sx _ _ _ fun z=>by have:=C.cel _ z rfl;rw [hfree] at this;cases this).symm.trans hc
         rcases iJ scope.names [] hcl with q | ⟨q1,q2⟩
         ·simp at q
         ·rw[hc'] at q2
          have q2:c=c':=q2
          rw[q2]
          exact hcell'
   have hmm:=hg ([]++lx fp s5.heap) s5 (c8 own kp σ) H5 x u _ I5' r5 (step x H5 y5)
   refine wpAny_bind (dw hmm fun _ s6 ⟨σ6,H6,I6,q6⟩=>?_)
   refine wpAny_bind (dw (hi _ s6 σ6 H6 _ I6 q6) fun ok s7 ⟨H7,I7,q7⟩=>?_)
   cases ok with
   | false=>
     simp only[Bool.false_eq_true,if_false] at q7 ⊢
     obtain⟨m',hm',w7⟩:=q7
     obtain⟨a1,a2⟩:=keepIt I7
     exact wpAny_pure ⟨rfl,m',hm',i+1,ys,H7,reset I7,a1,a2,w7⟩
   | true=>
     simp only[if_true] at q7 ⊢
     refine wpAny_bind (wpAny_bind (dw (he _ s7 σ6 H7 _ I7 q7) fun yv s8 ⟨y,H8,I8,r8,hD,hlt,m',hm',w8⟩=>wpAny_bind ?_))
     obtain⟨a1,a2⟩:=keepIt I8
     refine dw (mV _ s8 σ6 H8 (.ref D) [y] (.ref D) [yv] (fun v H9=>v= .bX∧H9=upd H8 D (.lst (ys++[y]))) I8 rfl (.cons r8 .nil) ⟨D,ys,y,rfl,rfl,hD,hlt,rfl,rfl⟩) fun _ s9 ⟨v9,H9,I9,_,_,e9⟩=>?_
     subst e9
     obtain⟨b1,b2⟩:=keepIt I9
     exact wpAny_pure (wpAny_pure ⟨rfl,m',hm',i+1,ys++[y],_,reset I9,b1,b2,w8⟩)
 exact codeAny_compStart_list loop (T.self _ _ _ _ _ st1 loop)
theorem xU(hc:X.calm=true)(C:bM X scope own kp kn)(hi:PI X tg iter wi)(hg:∀fp s H,PG (bw X scope (own++kn) fp s H) tg g)(hif:∀fp s H,mW (bw X scope (own++kn) fp s H) ifs tc)
 (he:∀fp s H,PE (bw X scope (own++kn) fp s H) elt te) (hs:∀x,foldedSetIterable iter X.env x=pure x:=by intro _;rfl):PE X (.ListComp elt [⟨tg,iter,ifs,0⟩] scope pos) (xg wi g tc te own kp):=by
 intro pins s σ H Q I h
 rw[eval_ListComp]
 refine wpAny_comprehension_free (use:=none) rfl hs (jO (lB C I)) C.kind C.nd (dw (hi pins s σ H _ I h) fun v s1 h1=>dw h1 fun itv s2 h2=>?_)
 obtain⟨it,fp,tn,J,H2,e,I2,T,st2,f2,q⟩:=h2
 subst e
 refine wpAny_newObj_type ?_
 have I3:Inv X pins σ (upd H2 s2.heap.objs.size (.lst [])) {s2 with heap:=s2.heap.push {cls:= .type "list",dict:=none,data:= .seq ([]:List Value).toArray}}:=I2.Ce (its:=[]) (t':=s2.toks) .nil (Nat.zero_le _)
 obtain⟨W,w0,turn⟩:=q s2.heap.objs.size I2.fresh
 have fne:∀b∈fp,b < s2.heap.objs.size:=fun b hb=>let⟨o,e,_⟩:=T.obj _ _ st2 b hb;Heap.lt_size e
 have f3:∀b∈fp,n_ X pins (upd H2 s2.heap.objs.size (.lst [])) b:=fun b hb=>⟨by rw[aT (Nat.ne_of_lt (fne b hb))];exact(f2 b hb).1,(f2 b hb).2⟩
 generalize hs3:({s2 with heap:=s2.heap.push {cls:= .type "list",dict:=none,data:= .seq ([]:List Value).toArray}}:Shared)=s3 at I3 ⊢
 have st3:tn 0 s3.heap:=by rw[←hs3];exact T.keep _ _ _ st2 fun b _ o e=>Heap.get?_push_of_some _ e
 have fne3:∀b∈fp,b < s3.heap.objs.size:=fun b hb=>by rw[←hs3];exact Nat.lt_of_lt_of_le (fne b hb) (by rw[Heap.size_push];exact Nat.le_succ _)
 refine rG fun h₁ hns₁ hk hC=>?_
 refine uO (D:=s2.heap.objs.size) hc C I3 f3 fne3 T (hg fp s3 _) (hif fp s3 _) (he fp s3 _) hns₁ hk hC st3 W w0 turn fun H' s' σ' J' hq=>?_
 have B:=qg I3 f3 J'
 obtain⟨m',hm',_⟩:=J'.loc
 refine⟨m',hm',fun h' sb=>⟨.ref s2.heap.objs.size,H',?_,rfl,hq⟩⟩
 have fC:=I3.n6 (H':=H') (b:=s3.heap.objs.size) (Nat.le_refl _) J'.free
 exact B.turned (it:=s3.heap.objs.size) (t':=s'.toks) (fun b o hb e=>(sb.2 b hb).trans e) fC.1 fC.2.1 fC.2.2.2.1 fC.2.2.2.2.1 fC.2.2.2.2.2
theorem wQ{i:Nat}{x:Str}{pos' spos:Pos}(hc:X.calm=true)(hN:X.N.Nodup)(hx:X.N[i]? =some x)(hxl:X.env.scope.names.lookup x=some .local)(C:bM X scope own kp kn)(hi:PI X tg iter wi)
 (hg:∀fp s H,PG (bw X scope (own++kn) fp s H) tg g) (hif:∀fp s H,mW (bw X scope (own++kn) fp s H) ifs tc)
 (he:∀fp s H,PE (bw X scope (own++kn) fp s H) elt te)
 (hsw:swapsWith (.ListComp elt [⟨tg,iter,ifs,0⟩] scope pos) (some (.Name x pos')) spos.line X.env=pure true:=by rfl)
 (hs:∀x,foldedSetIterable iter X.env x=pure x:=by intro _;rfl) :
 PS X (.Assign [.Name x pos'] (.ListComp elt [⟨tg,iter,ifs,0⟩] scope pos) spos) (yR (xg wi g tc te own kp) (o_ i)):=by
 intro pins s σ H D I h
 rw[exec_Assign_Name_used _ _ _ _ hsw]
 refine wpAny_bind (wpAny_standAt (wpAny_bind ?_))
 show wpAny _ X.A (do let _ ←comprehension (.ListComp elt [⟨tg,iter,ifs,0⟩] scope pos) scope X.env _ (newList []) false (eval iter X.env) (some (assign (.Name x pos') X.env))) _ _ s
 refine wpAny_bind (wpAny_mono (wpAny_comprehension_free (use:=some (assign (.Name x pos') X.env)) (Q:=fun _ s'=>SP X pins D .next s') rfl hs (jO (lB C I)) C.kind C.nd
  (dw (hi pins s σ H _ I h) fun v s1 h1=>dw h1 fun itv s2 h2=>?_)) (fun _ s' hq=>wpAny_pure (wpAny_pure hq)) fun _ _ e=>e)
 obtain⟨it,fp,tn,J,H2,e,I2,T,st2,f2,q⟩:=h2
 subst e
 refine wpAny_newObj_type ?_
 have I3:Inv X pins σ (upd H2 s2.heap.objs.size (.lst [])) {s2 with heap:=s2.heap.push {cls:= .type "list",dict:=none,data:= .seq ([]:List Value).toArray}}:=I2.Ce (its:=[]) (t':=s2.toks) .nil (Nat.zero_le _)
 obtain⟨W,w0,turn⟩:=q s2.heap.objs.size I2.fresh
 have fne:∀b∈fp,b < s2.heap.objs.size:=fun b hb=>let⟨o,e,_⟩:=T.obj _ _ st2 b hb;Heap.lt_size e
 have f3:∀b∈fp,n_ X pins (upd H2 s2.heap.objs.size (.lst [])) b:=fun b hb=>⟨by rw[aT (Nat.ne_of_lt (fne b hb))];exact(f2 b hb).1,(f2 b hb).2⟩
 generalize hs3:({s2 with heap:=s2.heap.push {cls:= .type "list",dict:=none,data:= .seq ([]:List Value).toArray}}:Shared)=s3 at I3 ⊢
 have st3:tn 0 s3.heap:=by rw[←hs3];exact T.keep _ _ _ st2 fun b _ o e=>Heap.get?_push_of_some _ e
 have fne3:∀b∈fp,b < s3.heap.objs.size:=fun b hb=>by rw[←hs3];exact Nat.lt_of_lt_of_le (fne b hb) (by rw[Heap.size_push];exact Nat.le_succ _)
 refine rG fun h₁ hns₁ hk hC=>?_
 refine uO (Q:=fun x H1=>o_ i x σ H1 D.nx) (D:=s2.heap.objs.size) hc C I3 f3 fne3 T (hg fp s3 _) (hif fp s3 _) (he fp s3 _) hns₁ hk hC st3 W w0 turn fun H' s' σ' J' hq=>?_
 have B:=qg I3 f3 J'
 obtain⟨m',hm',_⟩:=J'.loc
 have fC:=I3.n6 (H':=H') (b:=s3.heap.objs.size) (Nat.le_refl _) J'.free
 show wpAny _ X.A (assign (.Name x pos') X.env (.ref s2.heap.objs.size)) _ _ s'
 refine wpAny_assign_Name (qS B hN hx (.inl hxl) (v:= .ref s2.heap.objs.size) rfl (fun s4 I4 ⟨a,sb,ha⟩=>?_) (.inr hxl))
 have ha':s3.heap.objs.size≠a:=by
  rcases ha with rfl | z
  ·exact fC.2.1
  ·exact fun e=>fC.2.2.2.2.1 x a z e.symm
 refine⟨m',hm'.sameBut sb ha',fun h' sb'=>⟨_,H',?_,hq⟩⟩
 exact I4.turned (it:=s3.heap.objs.size) (t':=s4.toks) (fun b o hb e=>(sb'.2 b hb).trans e) fC.1 fC.2.1 fC.2.2.2.1 fC.2.2.2.2.1 fC.2.2.2.2.2
end
end L2
end
section
set_option maxRecDepth 100000
set_option maxHeartbeats 4000000
namespace L2
open PySem PySem.Spec PyProof.Rows
inductive D where
 | bX | bl (b:Bool) | int (i:Int) | str (x:Str) | lst (ds:List D) | tup (ds:List D) | dct (ks:List Key) (ds:List D)
inductive R (α:Type) where
 | ok (a:α) | ex (c:Nat) | no
noncomputable def R.bind{α β:Type}:R α→(α→R β)→R β
 | .ok a,f=>f a
 | .ex c,_=> .ex c
 | .no,_=> .no
theorem R.ab{α β:Type}{r:R α}{f:α→R β}{b:β}(h:r.bind f= .ok b):∃a,r= .ok a∧f a= .ok b:=by
 cases r with
 | ok a=>exact⟨a,rfl,h⟩
 | ex c=>cases h
 | no=>cases h
@[simp] theorem R.aP{α β:Type}(a:α)(f:α→R β):(R.ok a).bind f=f a:=rfl
noncomputable def R.bt{α:Type}(c:Bool)(r:R α):R α:=if c then r else .no
theorem R.aS{α:Type}{c:Bool}{r:R α}{a:α}(h:R.bt c r= .ok a):c=true∧r= .ok a:=by
 cases c with
 | true=>exact⟨rfl,h⟩
 | false=>cases h
@[simp] theorem R.fF{α:Type}(r:R α):R.bt true r=r:=rfl
noncomputable def ql(K:PySem.W.Frag)(B:List Addr)(H:Hp)(a:Addr)(xs:List V):Prop:=
 (a ∉ B∧Rd H a (.lst xs))∨∃(its:List Value) (n:Nat),K.lookup a=some {cls:= .type "list",data:= .seq its.toArray n}∧xs.length≤sizeLine∧Vals xs its
noncomputable def qO(K:PySem.W.Frag)(B:List Addr)(H:Hp)(a:Addr)(xs:List V):Prop:=
 (a ∉ B∧Rd H a (.tup xs))∨∃(o:Obj) (its:Array Value) (n:Nat),K.lookup a=some o∧o.cls= .type "tuple"∧o.data= .seq its n∧its.size≤sizeLine∧Vals xs its.toList
theorem ql.sq{K:PySem.W.Frag}{B:List Addr}{H:Hp}{a:Addr}{xs:List V}(h:ql K B H a xs):lR K H a xs:=by
 rcases h with z | ⟨its,n,hk,hz,r⟩
 ·exact .inl z.2
 ·exact .inr ⟨_,its.toArray,n,hk,rfl,rfl,rfl,by rw[List.size_toArray,←r.length];exact hz,by simpa using r⟩
theorem qO.sq{K:PySem.W.Frag}{B:List Addr}{H:Hp}{a:Addr}{xs:List V}(h:qO K B H a xs):nH K H a xs:=h.elim (fun z=> .inl z.2) .inr
mutual
noncomputable def Rep(K:PySem.W.Frag)(B:List Addr)(H:Hp):D→V→Prop
 | .bX,v=>v= .bX
 | .bl b,v=>v= .bl b
 | .int i,v=>v= .int i
 | .str x,v=>v= .str x
 | .lst ds,v=>∃a xs,v= .ref a∧ql K B H a xs∧ay K B H ds xs
 | .tup ds,v=>∃a xs,v= .ref a∧qO K B H a xs∧ay K B H ds xs
 | .dct ks ds,v=>∃(a:Addr) (kvs:List (Key × V)),v= .ref a∧(a ∉ B∧H a=some (.dK kvs))∧kvs.map (·.1)=ks∧ay K B H ds (kvs.map (·.2))
noncomputable def ay(K:PySem.W.Frag)(B:List Addr)(H:Hp):List D→List V→Prop
 | [],xs=>xs=[]
 | d ::ds,xs=>∃x r,xs=x ::r∧Rep K B H d x∧ay K B H ds r
end
noncomputable def c_(B:List Addr)(H:Hp)(B':List Addr)(H':Hp):Prop:=∀b o,H b=some o→b ∉ B→H' b=some o∧b ∉ B'
theorem c_.rd{B B':List Addr}{H H':Hp}(p:c_ B H B' H'){a:Addr}{u:HO}(h:Rd H a u)(n:a ∉ B):Rd H' a u∧a ∉ B':=by
 rcases h with e | ⟨o,e⟩
 ·exact⟨.inl (p a _ e n).1,(p a _ e n).2⟩
 ·exact⟨.inr ⟨o,(p a _ e n).1⟩,(p a _ e n).2⟩
theorem c_.trans{B B' B'':List Addr}{H H' H'':Hp}(p:c_ B H B' H')(q:c_ B' H' B'' H''):c_ B H B'' H'':=fun b o e n=>
 let⟨e1,n1⟩:=p b o e n;q b o e1 n1
theorem c_.same{B:List Addr}{H H':Hp}(s:aK H H'):c_ B H B H':=fun b o e n=>⟨s b o e,n⟩
theorem c_.refl(B:List Addr)(H:Hp):c_ B H B H:=c_.same (aK.refl H)
theorem ql.aZ{K:PySem.W.Frag}{B B':List Addr}{H H':Hp}(p:c_ B H B' H'){a:Addr}{xs:List V}(l:ql K B H a xs):ql K B' H' a xs:=
 l.elim (fun z=> .inl ⟨(p.rd z.2 z.1).2,(p.rd z.2 z.1).1⟩) .inr
mutual
theorem Rep.aZ{K:PySem.W.Frag}{B B':List Addr}{H H':Hp}(p:c_ B H B' H'):∀{d:D} {v:V},Rep K B H d v→Rep K B' H' d v
 | .bX,_,h=>h
 | .bl _,_,h=>h
 | .int _,_,h=>h
 | .str _,_,h=>h
 | .lst ds,v,h=>by
   unfold Rep at h ⊢
   obtain⟨a,xs,e,l,r⟩:=h
   exact⟨a,xs,e,l.aZ p,ay.aZ p r⟩
 | .tup ds,v,h=>by
   unfold Rep at h ⊢
   obtain⟨a,xs,e,l,r⟩:=h
   exact⟨a,xs,e,l.elim (fun z=> .inl ⟨(p.rd z.2 z.1).2,(p.rd z.2 z.1).1⟩) .inr,ay.aZ p r⟩
 | .dct ks ds,v,h=>by
   unfold Rep at h ⊢
   obtain⟨a,kvs,e,⟨n,l⟩,k,r⟩:=h
   exact⟨a,kvs,e,⟨(p a _ l n).2,(p a _ l n).1⟩,k,ay.aZ p r⟩
theorem ay.aZ{K:PySem.W.Frag}{B B':List Addr}{H H':Hp}(p:c_ B H B' H'):∀{ds:List D} {xs:List V},ay K B H ds xs→ay K B' H' ds xs
 | [],_,h=>h
 | d ::ds,xs,h=>by
   unfold ay at h ⊢
   obtain⟨x,r,e,h1,h2⟩:=h
   exact⟨x,r,e,Rep.aZ p h1,ay.aZ p h2⟩
end
theorem Rep.same{K:PySem.W.Frag}{B:List Addr}{H H':Hp}{d:D}{v:V}(h:Rep K B H d v)(s:aK H H'):Rep K B H' d v:=h.aZ (c_.same s)
theorem ay.same{K:PySem.W.Frag}{B:List Addr}{H H':Hp}{d:List D}{v:List V}(h:ay K B H d v)(s:aK H H'):ay K B H' d v:=h.aZ (c_.same s)
theorem ay.nil{K:PySem.W.Frag}{B:List Addr}{H:Hp}:ay K B H [] []:=by unfold ay;rfl
theorem ay.cons{K:PySem.W.Frag}{B:List Addr}{H:Hp}{d:D}{ds:List D}{x:V}{xs:List V}(h:Rep K B H d x)(t:ay K B H ds xs):ay K B H (d ::ds) (x ::xs):=by
 unfold ay;exact⟨x,xs,rfl,h,t⟩
theorem ay.bA{K:PySem.W.Frag}{B:List Addr}{H:Hp}{d:D}{ds:List D}{xs:List V}(h:ay K B H (d ::ds) xs):∃x r,xs=x ::r∧Rep K B H d x∧ay K B H ds r:=by
 unfold ay at h;exact h
theorem ay.length{K:PySem.W.Frag}{B:List Addr}{H:Hp}:∀{ds:List D} {xs:List V},ay K B H ds xs→ds.length=xs.length
 | [],_,h=>by unfold ay at h;rw [h];rfl
 | d ::ds,xs,h=>by
   obtain⟨x,r,rfl,_,h2⟩:=h.bA
   simp [h2.length]
theorem ay.get{K:PySem.W.Frag}{B:List Addr}{H:Hp}:∀{ds:List D} {xs:List V} {i:Nat} {d:D},ay K B H ds xs→ds[i]? =some d→∃x,xs[i]? =some x∧Rep K B H d x
 | [],_,_,_,_,e=>by simp at e
 | d ::ds,xs,0,d',h,e=>by
   obtain⟨x,r,rfl,h1,h2⟩:=h.bA
   simp at e;subst e
   exact⟨x,rfl,h1⟩
 | d ::ds,xs,i+1,d',h,e=>by
   obtain⟨x,r,rfl,h1,h2⟩:=h.bA
   obtain⟨y,e1,e2⟩:=ay.get (i:=i) h2 (by simpa using e)
   exact⟨y,by simpa using e1,e2⟩
theorem ay.append{K:PySem.W.Frag}{B:List Addr}{H:Hp}:∀{ds es:List D} {xs ys:List V},ay K B H ds xs→ay K B H es ys→ay K B H (ds++es) (xs++ys)
 | [],_,_,_,h,t=>by unfold ay at h;subst h;exact t
 | d ::ds,es,xs,ys,h,t=>by
   obtain⟨x,r,rfl,h1,h2⟩:=h.bA
   exact ay.cons h1 (ay.append h2 t)
theorem ay.drop{K:PySem.W.Frag}{B:List Addr}{H:Hp}:∀{ds:List D} {xs:List V} (n:Nat),ay K B H ds xs→ay K B H (ds.drop n) (xs.drop n)
 | _,_,0,h=>h
 | [],_,n+1,h=>by unfold ay at h;subst h;exact ay.nil
 | d ::ds,xs,n+1,h=>by
   obtain⟨x,r,rfl,h1,h2⟩:=h.bA
   exact ay.drop n h2
theorem ay.take{K:PySem.W.Frag}{B:List Addr}{H:Hp}:∀{ds:List D} {xs:List V} (n:Nat),ay K B H ds xs→ay K B H (ds.take n) (xs.take n)
 | _,_,0,h=>ay.nil
 | [],_,n+1,h=>by unfold ay at h;subst h;exact ay.nil
 | d ::ds,xs,n+1,h=>by
   obtain⟨x,r,rfl,h1,h2⟩:=h.bA
   exact ay.cons h1 (ay.take n h2)
noncomputable def D.atom:D→Bool
 | .bX=>true | .bl _=>true | .int _=>true | .str _=>true | _=>false
theorem Rep.atom{K:PySem.W.Frag}{B B':List Addr}{H H':Hp}{d:D}{v:V}(a:d.atom=true)(h:Rep K B H d v):Rep K B' H' d v:=by
 cases d <;> first | exact h | cases a
inductive Sl where
 | un | val (d:D) | bld (ds:List D)
noncomputable abbrev aq:=List Sl
structure dH (K:PySem.W.Frag) (Z B:List Addr) (H:Hp) (σ:St) (δ:aq):Prop where
 len:δ.length=σ.length
 bs:∀a∈B,∃o,H a=some o
 zb:∀a∈Z,a∈B
 val:∀(i:Nat) (d:D),δ[i]? =some (.val d)→∃v,σ[i]? =some (some v)∧Rep K B H d v
 bld:∀(i:Nat) (ds:List D),δ[i]? =some (.bld ds)→∃a xs,σ[i]? =some (some (.ref a))∧a∈B∧a ∉ Z∧H a=some (.lst xs)∧ay K B H ds xs
 dis:∀(i j:Nat) (a:Addr) (ds es:List D),δ[i]? =some (.bld ds)→δ[j]? =some (.bld es)→σ[i]? =some (some (.ref a))→σ[j]? =some (some (.ref a))→i=j
theorem dH.same{K:PySem.W.Frag}{Z B:List Addr}{H H':Hp}{σ:St}{δ:aq}(E:dH K Z B H σ δ)(s:aK H H'):dH K Z B H' σ δ where
 len:=E.len
 bs:=fun a ha=>let⟨o,e⟩:=E.bs a ha;⟨o,s a o e⟩
 zb:=E.zb
 val:=fun i d e=>let⟨v,h1,h2⟩:=E.val i d e;⟨v,h1,h2.same s⟩
 bld:=fun i ds e=>let⟨a,xs,h1,h2,h3,h4,h5⟩:=E.bld i ds e;⟨a,xs,h1,h2,h3,s a _ h4,h5.same s⟩
 dis:=E.dis
noncomputable def sG(δ:aq):aq:=δ.map fun x=>match x with | .bld ds=> .val (.lst ds) | y=>y
theorem PE.imp{X:Cx}{e:Expr}{t t':TE}(h:PE X e t)(w:∀σ H Q,t' σ H Q→t σ H Q):PE X e t':=fun pins s σ H Q I hq=>h pins s σ H Q I (w σ H Q hq)
theorem PT.imp{X:Cx}{e:Expr}{t t':TT}(h:PT X e t)(w:∀σ H Q,t' σ H Q→t σ H Q):PT X e t':=fun pins s σ H Q I hq=>h pins s σ H Q I (w σ H Q hq)
theorem PA.imp{X:Cx}{e:List Expr}{t t':TA}(h:PA X e t)(w:∀σ H Q,t' σ H Q→t σ H Q):PA X e t':=fun pos pins s σ H Q I hq=>h pos pins s σ H Q I (w σ H Q hq)
theorem PS.imp{X:Cx}{e:Stmt}{t t':TS}(h:PS X e t)(w:∀D σ H,t' D σ H→t D σ H):PS X e t':=fun pins s σ H D I hq=>h pins s σ H D I (w D σ H hq)
theorem r9.imp{X:Cx}{e:List Stmt}{t t':TS}(h:r9 X e t)(w:∀D σ H,t' D σ H→t D σ H):r9 X e t':=fun pins s σ H D I hq=>h pins s σ H D I (w D σ H hq)
theorem PG.imp{X:Cx}{e:Expr}{t t':TG}(h:PG X e t)(w:∀v σ H Q,t' v σ H Q→t v σ H Q):PG X e t':=fun pins s σ H v u Q I r hq=>h pins s σ H v u Q I r (w v σ H Q hq)
theorem PI.imp{X:Cx}{tg e:Expr}{t t':TI}(h:PI X tg e t)(w:∀σ H Q,t' σ H Q→t σ H Q):PI X tg e t':=fun pins s σ H Q I hq=>h pins s σ H Q I (w σ H Q hq)
noncomputable abbrev FD:=aq→R D
noncomputable def tD(K:PySem.W.Frag)(f:FD):TE:=fun σ H Q=>∃Z B δ d,dH K Z B H σ δ∧f δ= .ok d∧∀v H',aK H H'→Rep K B H' d v→Q v H'
noncomputable def tN(K:PySem.W.Frag)(f:aq→R (List D)):TE:=fun σ H Q=>∃Z B δ ds,dH K Z B H σ δ∧f δ= .ok ds∧∀a xs H',aK H H'→H a=none→H' a=some (.lst xs)→ay K (a ::B) H' ds xs→Q (.ref a) H'
noncomputable def Fz(K:PySem.W.Frag)(f:aq→R Bool):TT:=fun σ H Q=>∃Z B δ b,dH K Z B H σ δ∧f δ= .ok b∧∀H',aK H H'→Q b H'
noncomputable def Kp(K:PySem.W.Frag)(f:aq→R (List D)):TA:=fun σ H Q=>∃Z B δ ds,dH K Z B H σ δ∧f δ= .ok ds∧∀vs H',aK H H'→ay K B H' ds vs→Q vs H'
noncomputable abbrev PD(X:Cx)(e:Expr)(f:FD):Prop:=PE X e (tD X.K f)
noncomputable abbrev PN(X:Cx)(e:Expr)(f:aq→R (List D)):Prop:=PE X e (tN X.K f)
noncomputable abbrev PB(X:Cx)(e:Expr)(f:aq→R Bool):Prop:=PT X e (Fz X.K f)
noncomputable abbrev BU(X:Cx)(es:List Expr)(f:aq→R (List D)):Prop:=PA X es (Kp X.K f)
section
variable {X:Cx}
noncomputable def eNew(f:aq→R (List D)):FD:=fun δ=>(f δ).bind fun ds=> .ok (.lst ds)
theorem Ge{e:Expr}{f:aq→R (List D)}(h:PN X e f):PD X e (eNew f):=h.imp fun σ H Q ⟨Z,B,δ,d,E,hf,q⟩=>by
 obtain⟨ds,h1,h2⟩:=R.ab hf
 cases h2
 refine⟨Z,B,δ,ds,E,h1,fun a xs H' s n e r=>q _ H' s ?_⟩
 unfold Rep
 refine⟨a,xs,rfl, .inl ⟨fun ha=>?_, .inl e⟩,r.aZ fun b o e nb=>⟨e,fun hb=>nb (List.mem_cons_of_mem _ hb)⟩⟩
 obtain⟨o,ho⟩:=E.bs a ha
 rw[n] at ho;cases ho
theorem t_{B:List Addr}{H:Hp}{p:Addr}{o:HO}(h:H p=none):c_ B H (p ::B) (upd H p o):=fun b u e nb=>
 ⟨by rw[aT (bY e h)];exact e,fun hb=>by
   rcases List.mem_cons.mp hb with z | z
   ·exact bY e h z
   ·exact nb z⟩
noncomputable def o4(f:FD):FD:=fun δ=>(f (sG δ)).bind fun d=>R.bt d.atom (.ok d)
noncomputable def pO(f:aq→R Bool):aq→R Bool:=fun δ=>f (sG δ)
noncomputable def ag(i:Nat):FD:=fun δ=>match δ[i]? with | some (.val d)=> .ok d | _=> .no
noncomputable def eC(d:D):FD:=fun _=> .ok d
theorem Gk(i:Nat){x:Str}{pos:Pos}(hN:X.N[i]? =some x:=by rfl)(hv:DV X.env.scope x:=by first | exact Or.inl rfl | exact Or.inr (Or.inl rfl) | exact Or.inr (Or.inr rfl))(hd:(x==("__debug__":Str))=false:=by decide)
 (hcd:(x==("__classdict__":Str))=false:=by decide):PD X (.Name x pos) (ag i):=(sS hN hv hd hcd).imp fun σ H Q ⟨Z,B,δ,d,E,hf,q⟩=>by
 unfold ag at hf
 split at hf
 ·rename_i d' e
  cases hf
  obtain⟨v,h1,h2⟩:=E.val i d e
  exact⟨v,h1,q v H (aK.refl H) h2⟩
 ·cases hf
theorem mq{e:Expr}{v:V}{d:D}(h:PE X e (tC v))(r:∀B H,Rep X.K B H d v):PD X e (eC d):=h.imp fun σ H Q ⟨Z,B,δ,d',E,hf,q⟩=>by
 cases hf
 exact q v H (aK.refl H) (r B H)
theorem E8{i j pos}:PD X (.Constant (.int i) j pos) (eC (.int i)):=mq EL fun _ _=>by unfold Rep;rfl
theorem Hc{b j pos}:PD X (.Constant (.bool b) j pos) (eC (.bl b)):=mq GQ fun _ _=>by unfold Rep;rfl
theorem Gp{j pos}:PD X (.Constant .none j pos) (eC .bX):=mq EB fun _ _=>by unfold Rep;rfl
theorem Fm{x j pos}:PD X (.Constant (.str x) j pos) (eC (.str x)):=mq Gu fun _ _=>by unfold Rep;rfl
noncomputable def Glob(K:PySem.W.Frag)(mg:Str→Option Value)(x:Str)(d:D):Prop:=∃(u:Value) (v:V),mg x=some u∧RelV v u∧∀B H,Rep K B H d v
noncomputable def bb:aq→R (List D):=fun _=> .ok []
noncomputable def aw(f:FD)(g:aq→R (List D)):aq→R (List D):=fun δ=>(f δ).bind fun d=>(g δ).bind fun ds=> .ok (d ::ds)
theorem C9:BU X [] bb:=f7.imp fun σ H Q ⟨Z,B,δ,d,E,hf,q⟩=>by
 cases hf
 exact q [] H (aK.refl H) ay.nil
theorem AE{e:Expr}{es:List Expr}{f:FD}{g:aq→R (List D)}(h:PD X e f)(t:BU X es g)(hs:starEach (e ::es) X.env=(false,eval e X.env) ::starEach es X.env:=by rfl):BU X (e ::es) (aw f g):=
 (dz h t hs).imp fun σ H Q ⟨Z,B,δ,d,E,hf,q⟩=>by
   obtain⟨d1,h1,h2⟩:=R.ab hf
   obtain⟨ds,h3,h4⟩:=R.ab h2
   cases h4
   exact⟨Z,B,δ,d1,E,h1,fun v H1 s1 r1=>⟨Z,B,δ,ds,E.same s1,h3,fun vs H2 s2 r2=>q _ H2 (s1.trans s2) (ay.cons (r1.same s2) r2)⟩⟩
noncomputable def gh(g:aq→R (List D)):FD:=fun δ=>(g δ).bind fun ds=>R.bt (decide (ds.length≤sizeLine)) (.ok (.tup ds))
noncomputable def fD(g:aq→R (List D)):aq→R (List D):=fun δ=>(g δ).bind fun ds=>R.bt (decide (ds.length≤sizeLine)) (.ok ds)
theorem aD{H:Hp}{p:Addr}{o:HO}(h:H p=none):aK H (upd H p o):=fun b u e=>by rw[aT (bY e h)];exact e
theorem Gw{es:List Expr}{g:aq→R (List D)}{x1 pos}(h:BU X es g):PD X (.Tuple es x1 pos) (gh g):=(z9 h).imp fun σ H Q ⟨Z,B,δ,d,E,hf,q⟩=>by
 obtain⟨ds,h1,h2⟩:=R.ab hf
 obtain⟨hl,h3⟩:=R.aS h2
 cases h3
 refine⟨Z,B,δ,ds,E,h1,fun vs H1 s1 r1=>⟨by rw[←r1.length];exact of_decide_eq_true hl,fun p hp=>q _ _ (s1.trans (aD hp)) ?_⟩⟩
 unfold Rep
 refine⟨p,vs,rfl, .inl ⟨fun ha=>?_, .inl aN⟩,r1.same (aD hp)⟩
 obtain⟨o,ho⟩:=(E.same s1).bs p ha
 rw[hp] at ho;cases ho
theorem EZ{es:List Expr}{g:aq→R (List D)}{pos}(h:BU X es g):PN X (.List es pos) (fD g):=(Aq h).imp fun σ H Q ⟨Z,B,δ,d,E,hf,q⟩=>by
 obtain⟨ds,h1,h2⟩:=R.ab hf
 obtain⟨hl,h3⟩:=R.aS h2
 cases h3
 exact⟨Z,B,δ,_,E,h1,fun vs H1 s1 r1=>⟨by rw[←r1.length];exact of_decide_eq_true hl,fun p hp=>q p vs _ (s1.trans (aD hp)) (s1.free hp) aN (r1.aZ (t_ hp))⟩⟩
noncomputable def iT(X:Cx)(f:Value→Value→Sem Value)(g:D→D→R D):Prop:=
 ∀(pins:List (Addr × Obj)) (s:Shared) (σ:St) (H:Hp) (B:List Addr) (da db d:D) (x y:V) (v u:Value),Inv X pins σ H s→(∀a∈B,∃o,H a=some o)→RelV x v→RelV y u→Rep X.K B H da x→Rep X.K B H db y→g da db= .ok d→
  wpAny (model X.prog X.w) X.A (f v u) (EP X pins σ fun z H'=>aK H H'∧Rep X.K B H' d z) X.xe s
noncomputable def e2(g:D→D→R D)(fa fb:FD):FD:=fun δ=>(fa δ).bind fun a=>(fb δ).bind fun b=>g a b
theorem iT.r{f:Value→Value→Sem Value}{g:D→D→R D}(h:iT X f g):jG X f (fun x y H Q=>∃B da db d,(∀a∈B,∃o,H a=some o)∧Rep X.K B H da x∧Rep X.K B H db y∧g da db= .ok d∧∀z H',aK H H'→Rep X.K B H' d z→Q z H'):=by
 intro pins s σ H x y v u Q I rx ry ⟨B,da,db,d,hb,ha,hb',hg,q⟩
 exact dw (h pins s σ H B da db d x y v u I hb rx ry ha hb' hg) fun z s' ⟨zv,H',I',r',s1,r1⟩=>⟨zv,H',I',r',q zv H' s1 r1⟩
theorem ES{K:PySem.W.Frag}{g:D→D→R D}{fa fb:FD}{σ:St}{H:Hp}{Q:VK}(h:tD K (e2 g fa fb) σ H Q) :
 GL (fun x y H Q=>∃B da db d,(∀a∈B,∃o,H a=some o)∧Rep K B H da x∧Rep K B H db y∧g da db= .ok d∧∀z H',aK H H'→Rep K B H' d z→Q z H') (tD K fa) (tD K fb) σ H Q:=by
 obtain⟨Z,B,δ,d,E,hf,q⟩:=h
 obtain⟨d1,h1,h2⟩:=R.ab hf
 obtain⟨d2,h3,h4⟩:=R.ab h2
 exact⟨Z,B,δ,d1,E,h1,fun v1 H1 s1 r1=>⟨Z,B,δ,d2,E.same s1,h3,fun v2 H2 s2 r2=>⟨B,d1,d2,d,(E.same (s1.trans s2)).bs,r1.same s2,r2,h4,fun z H' s3 r3=>q z H' (s1.trans (s2.trans s3)) r3⟩⟩⟩
theorem Ia{op:Operator}{g:D→D→R D}{a b:Expr}{fa fb:FD}{pos:Pos}(ho:iT X (binaryOp op) g)(ha:PD X a fa)(hb:PD X b fb):PD X (.BinOp a op b pos) (e2 g fa fb):=
 (Ap ho.r ha hb).imp fun σ H Q h=>ES h
theorem FC{op:CmpOp}{g:D→D→R D}{a b:Expr}{fa fb:FD}{pos:Pos}(ho:iT X (compareOp op) g)(ha:PD X a fa)(hb:PD X b fb)(hm:behindInMarks op b=false):PD X (.Compare a [op] [b] pos) (e2 g fa fb):=
 (xD ho.r ha hb hm).imp fun σ H Q h=>ES h
noncomputable def b2(g:D→D→R D)(fa fb:FD):aq→R Bool:=fun δ=>(e2 g fa fb δ).bind fun d=>match d with | .bl b=> .ok b | _=> .no
theorem Fw{op:CmpOp}{g:D→D→R D}{a b:Expr}{fa fb:FD}{pos:Pos}(ho:iT X (compareOp op) g)(ha:PD X a fa)(hb:PD X b fb)(hm:behindInMarks op b=false):PB X (.Compare a [op] [b] pos) (b2 g fa fb):=
 (x9 ho.r ha hb hm).imp fun σ H Q ⟨Z,B,δ,b,E,hf,q⟩=>by
   obtain⟨d,h1,h2⟩:=R.ab hf
   cases d with
   | bl k=>
     cases h2
     exact ES (g:=g) (Q:=fun x H'=>∃k,x= .bl k∧Q k H') ⟨Z,B,δ, .bl b,E,h1,fun v H' s r=>⟨b,by unfold Rep at r;exact r,q H' s⟩⟩
   | _=>cases h2
noncomputable def I0(g g':D→D→R D)(fa fb fc:FD):FD:=fun δ=>(fa δ).bind fun a=>(fb δ).bind fun b=>(g a b).bind fun r=>match r with
 | .bl true=>(fc δ).bind fun c=>g' b c
 | .bl false=> .ok (.bl false)
 | _=> .no
noncomputable def qf:D→R Bool
 | .bX=> .ok false
 | .bl b=> .ok b
 | .int i=> .ok (i !=0)
 | .str x=>R.bt (decide (x.length≤sizeLine)) (.ok ((x.length:Int) !=0))
 | .lst ds=> .ok (!ds.isEmpty)
 | .tup ds=> .ok (!ds.isEmpty)
 | .dct _ _=> .no
noncomputable def jR(f:FD):aq→R Bool:=fun δ=>(f δ).bind qf
theorem ay.isEmpty{K:PySem.W.Frag}{B:List Addr}{H:Hp}{ds:List D}{xs:List V}(h:ay K B H ds xs):ds.isEmpty=xs.isEmpty:=by
 have:=h.length
 cases ds <;> cases xs <;> simp_all
theorem Bx{K:PySem.W.Frag}{B:List Addr}{H:Hp}{d:D}{v:V}{b:Bool}(r:Rep K B H d v)(h:qf d= .ok b):Cs K v H b:=by
 cases d with
 | bX=>unfold Rep at r;subst r;cases h;exact rfl
 | bl k=>unfold Rep at r;subst r;cases h;exact rfl
 | int i=>unfold Rep at r;subst r;cases h;exact rfl
 | str x=>unfold Rep at r;subst r;obtain⟨h1,h2⟩:=R.aS h;cases h2;exact⟨of_decide_eq_true h1,rfl⟩
 | lst ds=>unfold Rep at r;obtain⟨a,xs,rfl,l,r⟩:=r;cases h;exact .inl ⟨xs,l.sq,by rw[r.isEmpty]⟩
 | tup ds=>unfold Rep at r;obtain⟨a,xs,rfl,l,r⟩:=r;cases h;exact .inr (.inl ⟨xs,l.sq,by rw[r.isEmpty]⟩)
 | dct _ _=>cases h
theorem Ex{a:Expr}{f:FD}(ha:PD X a f)(he:∀whole,isTrue a X.env whole=(do let v ←whole;standAt a.pos;holding [v] (truthy v)):=by intro _;rfl):PB X a (jR f):=
 (uP ha he).imp fun σ H Q ⟨Z,B,δ,b,E,hf,q⟩=>by
   obtain⟨d,h1,h2⟩:=R.ab hf
   exact⟨Z,B,δ,d,E,h1,fun v H' s r=>⟨b,Bx r h2,q H' s⟩⟩
noncomputable def pS(f g:aq→R Bool):aq→R Bool:=fun δ=>(f δ).bind fun b=>if b then g δ else .ok false
noncomputable def AZ(f g:aq→R Bool):aq→R Bool:=fun δ=>(f δ).bind fun b=>if b then .ok true else g δ
noncomputable def kK(f:aq→R Bool):aq→R Bool:=fun δ=>(f δ).bind fun b=> .ok (!b)
noncomputable def BZ(X:Cx)(e:Expr)(f:aq→R Bool):Prop:=PW X e (Fz X.K f)
theorem BZ.pb{e:Expr}{f:aq→R Bool}(h:BZ X e f):PB X e f:=PW.pt h
theorem Am{a:Expr}{f:aq→R Bool}{pos:Pos}(h:PB X a f):BZ X (.BoolOp .And [a] pos) f:=Cg h
theorem DP{a:Expr}{f:aq→R Bool}{pos:Pos}(h:PB X a f):BZ X (.BoolOp .Or [a] pos) f:=Fx h
theorem CW{a b:Expr}{rest:List Expr}{f g:aq→R Bool}{pos:Pos}(ha:PB X a f)(hb:BZ X (.BoolOp .And (b ::rest) pos) g):BZ X (.BoolOp .And (a ::b ::rest) pos) (pS f g):=by
 intro wh pins s σ H Q I ⟨Z,B,δ,k,E,hf,q⟩
 refine EX ha hb wh pins s σ H Q I ?_
 obtain⟨c,h1,h2⟩:=R.ab hf
 refine⟨Z,B,δ,c,E,h1,fun H1 s1=>?_⟩
 cases c with
 | true=>rw [if_pos rfl] at h2 ⊢;exact⟨Z,B,δ,k,E.same s1,h2,fun H' s2=>q H' (s1.trans s2)⟩
 | false=>rw [if_neg (by decide)] at h2 ⊢;cases h2;exact q H1 s1
theorem Em{a b:Expr}{rest:List Expr}{f g:aq→R Bool}{pos:Pos}(ha:PB X a f)(hb:BZ X (.BoolOp .Or (b ::rest) pos) g):BZ X (.BoolOp .Or (a ::b ::rest) pos) (AZ f g):=by
 intro wh pins s σ H Q I ⟨Z,B,δ,k,E,hf,q⟩
 refine GY ha hb wh pins s σ H Q I ?_
 obtain⟨c,h1,h2⟩:=R.ab hf
 refine⟨Z,B,δ,c,E,h1,fun H1 s1=>?_⟩
 cases c with
 | true=>rw [if_pos rfl] at h2 ⊢;cases h2;exact q H1 s1
 | false=>rw [if_neg (by decide)] at h2 ⊢;exact⟨Z,B,δ,k,E.same s1,h2,fun H' s2=>q H' (s1.trans s2)⟩
theorem F7{a:Expr}{f:aq→R Bool}{pos:Pos}(ha:PB X a f):PB X (.UnaryOp .Not a pos) (kK f):=(zR ha).imp fun σ H Q ⟨Z,B,δ,k,E,hf,q⟩=>by
 obtain⟨c,h1,h2⟩:=R.ab hf
 cases h2
 exact⟨Z,B,δ,c,E,h1,fun H1 s1=>q H1 s1⟩
noncomputable def BS(f:FD):aq→R Bool:=fun δ=>(f δ).bind fun d=>match d with | .bl b=> .ok b | _=> .no
noncomputable def vH(f g:FD):FD:=fun δ=>(BS f δ).bind fun b=>if b then g δ else .ok (.bl false)
noncomputable def Gz(f g:FD):FD:=fun δ=>(BS f δ).bind fun b=>if b then .ok (.bl true) else g δ
noncomputable def vm(f:FD):FD:=fun δ=>(BS f δ).bind fun b=> .ok (.bl (!b))
noncomputable def xh(c:aq→R Bool)(f g:FD):FD:=fun δ=>(c δ).bind fun b=>if b then f δ else g δ
theorem Hv{c a b:Expr}{fc:aq→R Bool}{f g:FD}{pos:Pos}(hc:PB X c fc)(ha:PD X a f)(hb:PD X b g):PD X (.IfExp c a b pos) (xh fc f g):=(AL hc ha hb).imp fun σ H Q ⟨Z,B,δ,k,E,hf,q⟩=>by
 obtain⟨c,h1,h2⟩:=R.ab hf
 refine⟨Z,B,δ,c,E,h1,fun H1 s1=>?_⟩
 cases c with
 | true=>rw [if_pos rfl] at h2 ⊢;exact⟨Z,B,δ,k,E.same s1,h2,fun v H' s2 r2=>q v H' (s1.trans s2) r2⟩
 | false=>rw [if_neg (by decide)] at h2 ⊢;exact⟨Z,B,δ,k,E.same s1,h2,fun v H' s2 r2=>q v H' (s1.trans s2) r2⟩
noncomputable def cS(X:Cx)(f:Value)(g:List D→R D):Prop:=
 ∀(pins:List (Addr × Obj)) (s:Shared) (σ:St) (H:Hp) (B:List Addr) (ds:List D) (d:D) (xs:List V) (us:List Value),Inv X pins σ H s→(∀a∈B,∃o,H a=some o)→Vals xs us→ay X.K B H ds xs→g ds= .ok d→
  wpAny (model X.prog X.w) X.A (call f us) (EP X pins σ fun z H'=>aK H H'∧Rep X.K B H' d z) X.xe s
noncomputable def aO(g:List D→R D)(fs:aq→R (List D)):FD:=fun δ=>(fs δ).bind g
theorem cS.r{f:Value}{g:List D→R D}(h:cS X f g):jH X f (fun xs H Q=>∃B ds d,(∀a∈B,∃o,H a=some o)∧ay X.K B H ds xs∧g ds= .ok d∧∀z H',aK H H'→Rep X.K B H' d z→Q z H'):=by
 intro pins s σ H xs us Q I rx ⟨B,ds,d,hb,hr,hg,q⟩
 exact dw (h pins s σ H B ds d xs us I hb rx hr hg) fun z s' ⟨zv,H',I',r',s1,r1⟩=>⟨zv,H',I',r',q zv H' s1 r1⟩
theorem xS{K:PySem.W.Frag}{g:List D→R D}{fs:aq→R (List D)}{σ:St}{H:Hp}{Q:VK}(h:tD K (aO g fs) σ H Q) :
 Kp K fs σ H fun vs H1=>∃B ds d,(∀a∈B,∃o,H1 a=some o)∧ay K B H1 ds vs∧g ds= .ok d∧∀z H',aK H1 H'→Rep K B H' d z→Q z H':=by
 obtain⟨Z,B,δ,d,E,hf,q⟩:=h
 obtain⟨ds,h1,h2⟩:=R.ab hf
 exact⟨Z,B,δ,ds,E,h1,fun vs H1 s1 r1=>⟨B,ds,d,(E.same s1).bs,r1,h2,fun z H' s2 r2=>q z H' (s1.trans s2) r2⟩⟩
theorem zu{g:List D→R D}{x:Str}{id:String}{p pos:Pos}{e:Expr}{es:List Expr}{fs:aq→R (List D)}(hc:cS X (.builtin id) g)(hg:Gl X x)(hm:X.mg x=none)(hv:bootBuiltins x=some (.builtin id))(ha:BU X (e ::es) fs)(hn:x≠"__name__":=by decide)(hdb:(x==("__debug__":Str))=false:=by decide)
 (he:starEach (e ::es) X.env=(false,eval e X.env) ::starEach es X.env:=by rfl) (hpl:(backTo pos (starEach es X.env)).any (·.1)=false:=by rfl):PD X (.Call (.Name x p) (e ::es) [] pos) (aO g fs):=
 (lV hc.r hg hm hv ha hn hdb he hpl).imp fun σ H Q h=>xS h
theorem zl{g:List D→R D}{x:Str}{T:String}{p pos:Pos}{e:Expr}{es:List Expr}{fs:aq→R (List D)}(hc:cS X (.type T) g)(hg:Gl X x)(hm:X.mg x=none)(hv:bootBuiltins x=some (.type T))(ha:BU X (e ::es) fs)(hn:x≠"__name__":=by decide)(hdb:(x==("__debug__":Str))=false:=by decide)
 (he:starEach (e ::es) X.env=(false,eval e X.env) ::starEach es X.env:=by rfl) (hpl:(backTo pos (starEach es X.env)).any (·.1)=false:=by rfl):PD X (.Call (.Name x p) (e ::es) [] pos) (aO g fs):=
 (yU hc.r hg hm hv ha hn hdb he hpl).imp fun σ H Q h=>xS h
noncomputable def A1(K:PySem.W.Frag)(n:Nat)(g:List D→R D):Sp:=fun vs H Q _=>vs.length=n∧∃B ds d,(∀a∈B,∃o,H a=some o)∧ay K B H ds vs∧g ds= .ok d∧∀z H',aK H H'→Rep K B H' d z→Q z H'
theorem B6{g:List D→R D}{k n:Nat}{f:Addr}{fd:FuncData}{ps:List Str}{x:Str}{p pos:Pos}{e:Expr}{es:List Expr}{fs:aq→R (List D)}
 (F:f_ X.prog X.w X.K X.mg X.base qk k f fd ps (A1 X.K n g)) (hr:dS k X.A) (hg:Gl X x) (hm:X.mg x=some (.ref f)) (hk:PySem.W.keepIn X.K (.ref f)=true) (hb:Binds X.K fd ps []) (ha:BU X (e ::es) fs)
 (hn:∀δ ds,fs δ= .ok ds→ds.length=n) (hdb:(x==("__debug__":Str))=false:=by decide) (he:starEach (e ::es) X.env=(false,eval e X.env) ::starEach es X.env:=by rfl) (hpl:(backTo pos (starEach es X.env)).any (·.1)=false:=by rfl) :
 PD X (.Call (.Name x p) (e ::es) [] pos) (aO g fs):=
 (sd F hr hg hm hk hb .nil ue ha hdb he hpl).imp fun σ H Q ⟨Z,B,δ,d,E,hf,q⟩=>by
   obtain⟨ds,h1,h2⟩:=R.ab hf
   refine⟨Z,B,δ,ds,E,h1,fun vs H1 s1 r1=>?_⟩
   show A1 X.K n g (vs++[]) H1 Q E0
   rw[List.append_nil]
   exact⟨by rw[←r1.length];exact hn δ ds h1,B,ds,d,(E.same s1).bs,r1,h2,fun z H' s2 r2=>q z H' (s1.trans s2) r2⟩
end
end L2
end
section
set_option maxRecDepth 100000
set_option maxHeartbeats 4000000
namespace L2
open PySem PySem.Spec PyProof.Rows
inductive Out where
 | nx (δ:aq) | rt (d:D)
noncomputable abbrev FS:=aq→R Out
structure Ev (Z B:List Addr) (H:Hp) (B':List Addr) (H':Hp):Prop where
 aZ:c_ B H B' H'
 zs:∀b o,H b=some o→b∈Z→H' b=some o∧b∈B'
theorem Ev.refl(Z B:List Addr)(H:Hp)(zb:∀a∈Z,a∈B):Ev Z B H B H:=⟨c_.refl B H,fun b o e z=>⟨e,zb b z⟩⟩
theorem Ev.trans{Z B B' B'':List Addr}{H H' H'':Hp}(a:Ev Z B H B' H')(b:Ev Z B' H' B'' H''):Ev Z B H B'' H'':=
 ⟨a.aZ.trans b.aZ,fun c o e z=>let⟨e1,_⟩:=a.zs c o e z;b.zs c o e1 z⟩
theorem Ev.same{Z B:List Addr}{H H':Hp}(zb:∀a∈Z,a∈B)(s:aK H H'):Ev Z B H B H':=⟨c_.same s,fun b o e z=>⟨s b o e,zb b z⟩⟩
noncomputable def ya(K:PySem.W.Frag)(Z B:List Addr)(H:Hp)(D:Ends):Out→Prop
 | .nx δ'=>∀σ' B' H',Ev Z B H B' H'→dH K Z B' H' σ' δ'→D.nx σ' H'
 | .rt d=>∀v B' H',Ev Z B H B' H'→(∀a∈Z,a∈B')→Rep K B' H' d v→D.rt v H'
theorem ya.ev{K:PySem.W.Frag}{Z B B1:List Addr}{H H1:Hp}{D:Ends}{o:Out}(q:ya K Z B H D o)(ev:Ev Z B H B1 H1):ya K Z B1 H1 D o:=by
 cases o with
 | nx δ'=>exact fun σ' B' H' ev' E'=>q σ' B' H' (ev.trans ev') E'
 | rt d=>exact fun v B' H' ev' z r=>q v B' H' (ev.trans ev') z r
noncomputable def sD(K:PySem.W.Frag)(F:FS):TS:=fun D σ H=>∃Z B δ o,dH K Z B H σ δ∧F δ= .ok o∧ya K Z B H D o
noncomputable abbrev CJ(X:Cx)(st:Stmt)(F:FS):Prop:=PS X st (sD X.K F)
noncomputable abbrev n0(X:Cx)(st:List Stmt)(F:FS):Prop:=r9 X st (sD X.K F)
section
variable {X:Cx}
noncomputable def lz:FS:=fun δ=> .ok (.nx δ)
noncomputable def gg(F G:FS):FS:=fun δ=>(F δ).bind fun o=>match o with | .nx δ'=>G δ' | .rt d=> .ok (.rt d)
theorem Co:n0 X [] lz:=sr.imp fun D σ H ⟨Z,B,δ,o,E,hf,q⟩=>by
 cases hf
 exact q σ B H (Ev.refl Z B H E.zb) E
theorem Gy{K:PySem.W.Frag}{F G:FS}{D:Ends}{σ:St}{H:Hp}(h:sD K (gg F G) D σ H):Ii (sD K F) (sD K G) D σ H:=by
 obtain⟨Z,B,δ,o,E,hf,q⟩:=h
 obtain⟨o1,h1,h2⟩:=R.ab hf
 refine⟨Z,B,δ,o1,E,h1,?_⟩
 cases o1 with
 | nx δ1=>
   intro σ1 B1 H1 ev E1
   refine⟨Z,B1,δ1,o,E1,h2,?_⟩
   cases o with
   | nx δ2=>exact fun σ' B' H' ev' E'=>q σ' B' H' (ev.trans ev') E'
   | rt d=>exact fun v B' H' ev' z r=>q v B' H' (ev.trans ev') z r
 | rt d=>
   cases h2
   exact q
theorem Bk{st:Stmt}{rest:List Stmt}{F G:FS}(h1:CJ X st F)(h2:n0 X rest G):n0 X (st ::rest) (gg F G):=(o9 h1 h2).imp fun D σ H h=>Gy h
theorem Dj{st:Stmt}{F:FS}(h1:CJ X st F):n0 X [st] F:=sH h1
theorem dH.set{K:PySem.W.Frag}{Z B:List Addr}{H:Hp}{σ:St}{δ:aq}(E:dH K Z B H σ δ){i:Nat}{d:D}{v:V}(hi:i < σ.length)(r:Rep K B H d v):dH K Z B H (σ.set i (some v)) (δ.set i (.val d)) where
 len:=by rw[List.length_set,List.length_set];exact E.len
 bs:=E.bs
 zb:=E.zb
 val:=fun j d' e=>by
  by_cases h:i=j
  ·subst h
   rw[List.getElem?_set_self (by rw[E.len];exact hi)] at e
   cases e
   exact⟨v,List.getElem?_set_self hi,r⟩
  ·rw[List.getElem?_set_ne h] at e ⊢
   exact E.val j d' e
 bld:=fun j ds e=>by
  by_cases h:i=j
  ·subst h
   rw[List.getElem?_set_self (by rw[E.len];exact hi)] at e
   cases e
  ·rw[List.getElem?_set_ne h] at e ⊢
   exact E.bld j ds e
 dis:=fun j k a ds es e1 e2 e3 e4=>by
  by_cases h:i=j
  ·subst h
   rw[List.getElem?_set_self (by rw[E.len];exact hi)] at e1
   cases e1
  ·by_cases h':i=k
   ·subst h'
    rw[List.getElem?_set_self (by rw[E.len];exact hi)] at e2
    cases e2
   ·rw[List.getElem?_set_ne h] at e1 e3
    rw[List.getElem?_set_ne h'] at e2 e4
    exact E.dis j k a ds es e1 e2 e3 e4
theorem dH.setB{K:PySem.W.Frag}{Z B:List Addr}{H:Hp}{σ:St}{δ:aq}(E:dH K Z B H σ δ){i:Nat}{ds:List D}{a:Addr}{xs:List V}(hi:i < σ.length)(hB:a∈B)(hZ:a ∉ Z)(hH:H a=some (.lst xs))(r:ay K B H ds xs)
 (new:∀j es,j≠i→δ[j]? =some (.bld es)→σ[j]?≠some (some (.ref a))):dH K Z B H (σ.set i (some (.ref a))) (δ.set i (.bld ds)) where
 len:=by rw[List.length_set,List.length_set];exact E.len
 bs:=E.bs
 zb:=E.zb
 val:=fun j d' e=>by
  by_cases h:i=j
  ·subst h
   rw[List.getElem?_set_self (by rw[E.len];exact hi)] at e
   cases e
  ·rw[List.getElem?_set_ne h] at e ⊢
   exact E.val j d' e
 bld:=fun j es e=>by
  by_cases h:i=j
  ·subst h
   rw[List.getElem?_set_self (by rw[E.len];exact hi)] at e
   cases e
   exact⟨a,xs,List.getElem?_set_self hi,hB,hZ,hH,r⟩
  ·rw[List.getElem?_set_ne h] at e ⊢
   exact E.bld j es e
 dis:=fun j k b ds1 es1 e1 e2 e3 e4=>by
  by_cases h:i=j
  ·subst h
   by_cases h':i=k
   ·exact h'
   ·rw[List.getElem?_set_self hi] at e3
    cases e3
    rw[List.getElem?_set_ne h'] at e2 e4
    exact absurd e4 (new k es1 (Ne.symm h') e2)
  ·by_cases h':i=k
   ·subst h'
    rw[List.getElem?_set_self hi] at e4
    cases e4
    rw[List.getElem?_set_ne h] at e1 e3
    exact absurd e3 (new j ds1 (Ne.symm h) e1)
   ·rw[List.getElem?_set_ne h] at e1 e3
    rw[List.getElem?_set_ne h'] at e2 e4
    exact E.dis j k b ds1 es1 e1 e2 e3 e4
noncomputable def lC(i:Nat)(f:FD):FS:=fun δ=>(f δ).bind fun d=>R.bt (decide (i < δ.length)) (.ok (.nx (δ.set i (.val d))))
theorem FU{K:PySem.W.Frag}{i:Nat}{f:FD}{D:Ends}{σ:St}{H:Hp}(h:sD K (lC i f) D σ H):yR (tD K f) (o_ i) D σ H:=by
 obtain⟨Z,B,δ,o,E,hf,q⟩:=h
 obtain⟨d,h1,h2⟩:=R.ab hf
 obtain⟨hi,h3⟩:=R.aS h2
 cases h3
 refine⟨Z,B,δ,d,E,h1,fun v H1 s1 r1=>?_⟩
 exact q _ B H1 (Ev.same E.zb s1) ((E.same s1).set (by rw[←E.len];exact of_decide_eq_true hi) r1)
theorem C4{i:Nat}{x:Str}{e:Expr}{f:FD}{pos pos':Pos}(hN:X.N.Nodup)(hi:X.N[i]? =some x)(hx:Loc X.env.scope x)(he:PD X e f)(hs:swapsWith e (some (.Name x pos')) pos.line X.env=pure false:=by rfl)(hf:X.fn x=true∨X.env.scope.names.lookup x=some .local:=by first | exact .inl rfl | exact .inr rfl | assumption) :
 CJ X (.Assign [.Name x pos'] e pos) (lC i f):=(wR hN hi hx he hs hf).imp fun D σ H h=>FU h
noncomputable def m_(i:Nat)(f:aq→R (List D)):FS:=fun δ=>(f δ).bind fun ds=>R.bt (decide (i < δ.length)) (.ok (.nx (δ.set i (.bld ds))))
theorem Fu{K:PySem.W.Frag}{i:Nat}{f:aq→R (List D)}{D:Ends}{σ:St}{H:Hp}(h:sD K (m_ i f) D σ H):yR (tN K f) (o_ i) D σ H:=by
 obtain⟨Z,B,δ,o,E,hf,q⟩:=h
 obtain⟨ds,h1,h2⟩:=R.ab hf
 obtain⟨hi,h3⟩:=R.aS h2
 cases h3
 refine⟨Z,B,δ,ds,E,h1,fun a xs H1 s1 n e r=>?_⟩
 have E1:=E.same s1
 have aB:a ∉ B:=fun ha=>by obtain⟨o,ho⟩:=E.bs a ha;rw [n] at ho;cases ho
 have nZ:a ∉ Z:=fun ha=>aB (E.zb a ha)
 have p0:c_ B H (a ::B) H1:=fun b o e' nb=>⟨s1 b o e',fun hb=>by
  rcases List.mem_cons.mp hb with z | z
  ·subst z;rw [n] at e';cases e'
  ·exact nb z⟩
 have E2:dH K Z (a ::B) H1 σ δ:={
  len:=E.len
  bs:=fun b hb=>by
   rcases List.mem_cons.mp hb with z | z
   ·subst z;exact⟨_,e⟩
   ·exact E1.bs b z
  zb:=fun b hb=>List.mem_cons_of_mem _ (E.zb b hb)
  val:=fun j d e=>let⟨v,q1,q2⟩:=E.val j d e;⟨v,q1,q2.aZ p0⟩
  bld:=fun j es e=>let⟨b,ys,q1,q2,q3,q4,q5⟩:=E.bld j es e;⟨b,ys,q1,List.mem_cons_of_mem _ q2,q3,s1 b _ q4,q5.aZ p0⟩
  dis:=E.dis}
 refine q _ (a ::B) H1 ⟨p0,fun b o e' hb=>⟨s1 b o e',List.mem_cons_of_mem _ (E.zb b hb)⟩⟩ (E2.setB (by rw[←E.len];exact of_decide_eq_true hi) List.mem_cons_self nZ e r fun j es hj ej hσ=>?_)
 obtain⟨b,ys,q1,_,_,q4,_⟩:=E.bld j es ej
 rw[hσ] at q1
 cases q1
 rw[n] at q4;cases q4
theorem Dp{i:Nat}{x:Str}{e:Expr}{f:aq→R (List D)}{pos pos':Pos}(hN:X.N.Nodup)(hi:X.N[i]? =some x)(hx:Loc X.env.scope x)(he:PN X e f)(hs:swapsWith e (some (.Name x pos')) pos.line X.env=pure false:=by rfl)(hf:X.fn x=true∨X.env.scope.names.lookup x=some .local:=by first | exact .inl rfl | exact .inr rfl | assumption) :
 CJ X (.Assign [.Name x pos'] e pos) (m_ i f):=(wR hN hi hx he hs hf).imp fun D σ H h=>Fu h
theorem dH.grow{K:PySem.W.Frag}{Z B:List Addr}{H:Hp}{σ:St}{δ:aq}(E:dH K Z B H σ δ){i:Nat}{ds es:List D}{a:Addr}{xs ys:List V}(hd:δ[i]? =some (.bld ds))(hσ:σ[i]? =some (some (.ref a)))(hB:a∈B)(hH:H a=some (.lst xs))(r:ay K B H es ys) :
 dH K Z B (upd H a (.lst ys)) σ (δ.set i (.bld es))∧c_ B H B (upd H a (.lst ys)):=by
 have p:c_ B H B (upd H a (.lst ys)):=fun b o e nb=>⟨by rw[aT (fun(z:b=a)=>nb (by rw[z];exact hB))];exact e,nb⟩
 have hi:i < δ.length:=(List.getElem?_eq_some_iff.mp hd).1
 refine⟨{
  len:=by rw[List.length_set];exact E.len
  bs:=fun b hb=>by
   by_cases z:b=a
   ·subst z;exact⟨_,aN⟩
   ·rw[aT z];exact E.bs b hb
  zb:=E.zb
  val:=fun j d e=>by
   by_cases h:i=j
   ·subst h;rw [List.getElem?_set_self hi] at e;cases e
   ·rw[List.getElem?_set_ne h] at e
    obtain⟨v,q1,q2⟩:=E.val j d e
    exact⟨v,q1,q2.aZ p⟩
  bld:=fun j fs e=>by
   by_cases h:i=j
   ·subst h;rw [List.getElem?_set_self hi] at e;cases e
    obtain⟨b,zs,q1,q2,q3,_,_⟩:=E.bld i ds hd
    rw[hσ] at q1;cases q1
    exact⟨a,ys,hσ,hB,q3,aN,r.aZ p⟩
   ·rw[List.getElem?_set_ne h] at e
    obtain⟨b,zs,q1,q2,q3,q4,q5⟩:=E.bld j fs e
    have ne:b≠a:=fun z=>by subst z;exact h (E.dis i j b ds fs hd e hσ q1)
    exact⟨b,zs,q1,q2,q3,by rw[aT ne];exact q4,q5.aZ p⟩
  dis:=fun j k b ds1 es1 e1 e2 e3 e4=>by
   have f1:∃fs,δ[j]? =some (.bld fs):=by
    by_cases h:i=j
    ·subst h;exact⟨ds,hd⟩
    ·rw[List.getElem?_set_ne h] at e1;exact⟨_,e1⟩
   have f2:∃fs,δ[k]? =some (.bld fs):=by
    by_cases h:i=k
    ·subst h;exact⟨ds,hd⟩
    ·rw[List.getElem?_set_ne h] at e2;exact⟨_,e2⟩
   obtain⟨_,f1⟩:=f1
   obtain⟨_,f2⟩:=f2
   exact E.dis j k b _ _ f1 f2 e3 e4},p⟩
theorem Ev.grow{Z B:List Addr}{H:Hp}{a:Addr}{o:HO}(zb:∀a∈Z,a∈B)(hZ:a ∉ Z)(p:c_ B H B (upd H a o)):Ev Z B H B (upd H a o):=
 ⟨p,fun b u e hb=>⟨by rw[aT (fun(z:b=a)=>hZ (by rw[←z];exact hb))];exact e,zb b hb⟩⟩
noncomputable def i5(δ:aq)(i:Nat):R (List D):=match δ[i]? with | some (.bld ds)=> .ok ds | _=> .no
theorem Bw{δ:aq}{i:Nat}{ds:List D}(h:i5 δ i= .ok ds):δ[i]? =some (.bld ds):=by
 unfold i5 at h
 split at h
 ·rename_i q;cases h;exact q
 ·cases h
noncomputable def nV(i:Nat)(f:FD):FS:=fun δ=>(f δ).bind fun d=>(i5 δ i).bind fun ds=>R.bt (decide (ds.length < sizeLine)) (.ok (.nx (δ.set i (.bld (ds++[d])))))
theorem Dy{i:Nat}{x:Str}{e:Expr}{f:FD}{npos apos cpos pos:Pos}(hN:X.N[i]? =some x)(hv:DV X.env.scope x)(he:PD X e f)
 (hd:(x==("__debug__":Str))=false:=by decide) (hcd:(x==("__classdict__":Str))=false:=by decide)
 (hs:starEach [e] X.env=(false,eval e X.env) ::starEach [] X.env:=by rfl) (hline:(apos.endLine==cpos.line)=true:=by rfl)
 (hfew:((backTo cpos (starEach [e] X.env)).all (fun x=>!x.1) && (backToKw cpos (keywordEach [] X.env)).all (fun x=>x.1.isSome)
   && decide (([e]:List Expr).length+([]:List Keyword).length+(if([]:List Keyword).isEmpty then 0 else 1) < 30))=true:=by rfl)
 (hsw:swapsWith (.Call (.Attribute (.Name x npos) "append" apos) [e] [] cpos) none pos.line X.env=pure false:=by rfl)
 (hbase:attributeBase (.Name x npos) "append" X.env (eval (.Name x npos) X.env)=eval (.Name x npos) X.env:=by rfl) :
 CJ X (.Expr (.Call (.Attribute (.Name x npos) "append" apos) [e] [] cpos) pos) (nV i f):=by
 refine(yd (D5 (X:=X) PySem.F.plainAttrs_list PySem.F.slot_list_append PySem.F.type_list_append mV (sS hN hv hd hcd) (dz he f7 hs) hbase hfew hline hs) hsw).imp fun D σ H ⟨Z,B,δ,o,E,hf,q⟩=>?_
 obtain⟨d,h1,h2⟩:=R.ab hf
 obtain⟨ds,h3,h4⟩:=R.ab h2
 obtain⟨hl,h5⟩:=R.aS h4
 cases h5
 have hb:=Bw h3
 obtain⟨a,xs,q1,q2,q3,q4,q5⟩:=E.bld i ds hb
 refine⟨.ref a,q1, .inl ⟨rfl,xs,lR.of q4⟩,⟨Z,B,δ,d,E,h1,fun v H1 s1 r1=>?_⟩⟩
 have E1:=E.same s1
 refine⟨a,xs,v,rfl,rfl,s1 a _ q4,by rw[←q5.length];exact of_decide_eq_true hl,?_⟩
 obtain⟨E2,p2⟩:=E1.grow (es:=ds++[d]) (ys:=xs++[v]) hb q1 q2 (s1 a _ q4) ((q5.same s1).append (ay.cons r1 ay.nil))
 exact q σ B _ ((Ev.same E.zb s1).trans (Ev.grow E.zb q3 p2)) E2
noncomputable def vf(i:Nat)(f:aq→R (List D)):FS:=fun δ=>(f δ).bind fun es=>(i5 δ i).bind fun ds=>R.bt (decide (ds.length+es.length≤sizeLine)) (.ok (.nx (δ.set i (.bld (ds++es)))))
noncomputable def gq(i:Nat)(δ:aq):aq:=match δ[i]? with | some (.bld ds)=>δ.set i (.val (.lst ds)) | _=>δ
theorem dH.gq{K:PySem.W.Frag}{Z B:List Addr}{H:Hp}{σ:St}{δ:aq}(E:dH K Z B H σ δ)(i:Nat):∃B',Ev Z B H B' H∧dH K Z B' H σ (gq i δ):=by
 unfold L2.gq
 cases hd:δ[i]? with
 | none=>exact⟨B,Ev.refl Z B H E.zb,E⟩
 | some x=>
   cases x with
   | un=>exact⟨B,Ev.refl Z B H E.zb,E⟩
   | val d=>exact⟨B,Ev.refl Z B H E.zb,E⟩
   | bld ds=>
     obtain⟨a,xs,q1,q2,q3,q4,q5⟩:=E.bld i ds hd
     have hi:i < δ.length:=(List.getElem?_eq_some_iff.mp hd).1
     have p:c_ B H (B.filter fun b=>decide (b≠a)) H:=fun b o e nb=>⟨e,fun hb=>nb (List.mem_filter.mp hb).1⟩
     have zb:∀b∈Z,b∈B.filter fun b=>decide (b≠a):=fun b hb=>List.mem_filter.mpr ⟨E.zb b hb,decide_eq_true fun z=>q3 (z▸hb)⟩
     refine⟨B.filter fun b=>decide (b≠a),⟨p,fun b o e hb=>⟨e,zb b hb⟩⟩,{
      len:=by rw[List.length_set];exact E.len
      bs:=fun b hb=>E.bs b (List.mem_filter.mp hb).1
      zb:=zb
      val:=fun j d e=>by
       by_cases h:i=j
       ·subst h;rw [List.getElem?_set_self hi] at e;cases e
        refine⟨.ref a,q1,?_⟩
        unfold Rep
        exact⟨a,xs,rfl, .inl ⟨fun hb=>by simpa using(List.mem_filter.mp hb).2, .inl q4⟩,q5.aZ p⟩
       ·rw[List.getElem?_set_ne h] at e
        obtain⟨v,z1,z2⟩:=E.val j d e
        exact⟨v,z1,z2.aZ p⟩
      bld:=fun j fs e=>by
       by_cases h:i=j
       ·subst h;rw [List.getElem?_set_self hi] at e;cases e
       ·rw[List.getElem?_set_ne h] at e
        obtain⟨b,zs,z1,z2,z3,z4,z5⟩:=E.bld j fs e
        exact⟨b,zs,z1,List.mem_filter.mpr ⟨z2,decide_eq_true fun z=>by subst z;exact h (E.dis i j b ds fs hd e q1 z1)⟩,z3,z4,z5.aZ p⟩
      dis:=fun j k b ds1 es1 e1 e2 e3 e4=>by
       by_cases h:i=j
       ·subst h;rw [List.getElem?_set_self hi] at e1;cases e1
       ·by_cases h':i=k
        ·subst h';rw [List.getElem?_set_self hi] at e2;cases e2
        ·rw[List.getElem?_set_ne h] at e1
         rw[List.getElem?_set_ne h'] at e2
         exact E.dis j k b ds1 es1 e1 e2 e3 e4}⟩
noncomputable def pC(i:Nat)(F:FS):FS:=fun δ=>F (gq i δ)
theorem GC{K:PySem.W.Frag}{i:Nat}{F:FS}{D:Ends}{σ:St}{H:Hp}(h:sD K (pC i F) D σ H):sD K F D σ H:=by
 obtain⟨Z,B,δ,o,E,hf,q⟩:=h
 obtain⟨B1,ev,E1⟩:=E.gq i
 refine⟨Z,B1,L2.gq i δ,o,E1,hf,?_⟩
 cases o with
 | nx δ'=>exact fun σ' B' H' ev' E'=>q σ' B' H' (ev.trans ev') E'
 | rt d=>exact fun v B' H' ev' z r=>q v B' H' (ev.trans ev') z r
theorem Dt(i:Nat){sts:List Stmt}{F:FS}(h:n0 X sts F):n0 X sts (pC i F):=h.imp fun D σ H h=>GC h
noncomputable def fM(f:FD):FS:=fun δ=>(f δ).bind fun d=> .ok (.rt d)
theorem CY{e:Expr}{f:FD}{pos:Pos}(he:PD X e f):CJ X (.Return (some e) pos) (fM f):=(zZ he).imp fun D σ H ⟨Z,B,δ,o,E,hf,q⟩=>by
 obtain⟨d,h1,h2⟩:=R.ab hf
 cases h2
 exact⟨Z,B,δ,d,E,h1,fun v H1 s1 r1=>q v B H1 (Ev.same E.zb s1) E.zb r1⟩
noncomputable def tj(c:aq→R Bool)(F G:FS):FS:=fun δ=>(c δ).bind fun b=>if b then F δ else G δ
theorem Ff{c:Expr}{a b:List Stmt}{fc:aq→R Bool}{F G:FS}{pos:Pos}(hc:PB X c fc)(ha:n0 X a F)(hb:n0 X b G):CJ X (.If c a b pos) (tj fc F G):=(Ac hc ha hb).imp fun D σ H ⟨Z,B,δ,o,E,hf,q⟩=>by
 obtain⟨k,h1,h2⟩:=R.ab hf
 refine⟨Z,B,δ,k,E,h1,fun H1 s1=>?_⟩
 have q':=q.ev (Ev.same E.zb s1)
 cases k with
 | true=>rw [if_pos rfl] at h2;exact y4 ⟨Z,B,δ,o,E.same s1,h2,q'⟩
 | false=>rw [if_neg (by decide)] at h2;exact zc ⟨Z,B,δ,o,E.same s1,h2,q'⟩
noncomputable abbrev FT:=D→aq→R aq
noncomputable def gD(K:PySem.W.Frag)(t:FT):TG:=fun v σ H Q=>∃Z B δ d δ',dH K Z B H σ δ∧Rep K B H d v∧t d δ= .ok δ'∧∀σ' H',aK H H'→dH K Z B H' σ' δ'→σ'.length=σ.length→Q σ' H'
noncomputable abbrev GJ(X:Cx)(tg:Expr)(t:FT):Prop:=PG X tg (gD X.K t)
noncomputable def bg(i:Nat):FT:=fun d δ=>R.bt (decide (i < δ.length)) (.ok (δ.set i (.val d)))
theorem z6{i:Nat}{x:Str}{pos:Pos}(hN:X.N.Nodup)(hi:X.N[i]? =some x)(hx:Loc X.env.scope x)(hf:X.fn x=true∨X.env.scope.names.lookup x=some .local:=by first | exact .inl rfl | exact .inr rfl | assumption):GJ X (.Name x pos) (bg i):=
 (xC hN hi hx hf).imp fun v σ H Q ⟨Z,B,δ,d,δ',E,r,ht,q⟩=>by
   obtain⟨hi,h⟩:=R.aS ht
   cases h
   exact q _ H (aK.refl H) (E.set (by rw[←E.len];exact of_decide_eq_true hi) r) (List.length_set ..)
noncomputable abbrev Ad:=List D→aq→R aq
noncomputable def K4(K:PySem.W.Frag)(t:Ad):As:=fun vs σ H Q=>∃Z B δ ds δ',dH K Z B H σ δ∧ay K B H ds vs∧t ds δ= .ok δ'∧∀σ' H',aK H H'→dH K Z B H' σ' δ'→σ'.length=σ.length→Q σ' H'
noncomputable abbrev AQ(X:Cx)(ts:List Expr)(t:Ad):Prop:=DG X ts (K4 X.K t)
theorem DG.imp{X:Cx}{e:List Expr}{t t':As}(h:DG X e t)(w:∀v σ H Q,t' v σ H Q→t v σ H Q):DG X e t':=fun pins s σ H v u Q I r hq=>h pins s σ H v u Q I r (w v σ H Q hq)
noncomputable def g_:Ad:=fun ds δ=>match ds with | []=> .ok δ | _=> .no
noncomputable def c7(t:FT)(u:Ad):Ad:=fun ds δ=>match ds with | d ::r=>(t d δ).bind fun δ'=>u r δ' | []=> .no
theorem zT:AQ X [] g_:=x5.imp fun vs σ H Q ⟨Z,B,δ,ds,δ',E,r,ht,q⟩=>by
 cases ds with
 | nil=>unfold ay at r;cases ht;exact⟨r,q σ H (aK.refl H) E rfl⟩
 | cons=>cases ht
theorem yB{e:Expr}{es:List Expr}{t:FT}{u:Ad}(h1:GJ X e t)(h2:AQ X es u)(hs:(assignEach (e ::es) X.env).map (·.2)=assign e X.env ::(assignEach es X.env).map (·.2):=by rfl):AQ X (e ::es) (c7 t u):=
 (uX h1 h2 hs).imp fun vs σ H Q ⟨Z,B,δ,ds,δ',E,r,ht,q⟩=>by
   cases ds with
   | nil=>cases ht
   | cons d ds=>
     obtain⟨x,xs,rfl,r1,r2⟩:=r.bA
     obtain⟨δ1,h1,h2⟩:=R.ab ht
     exact⟨x,xs,rfl,Z,B,δ,d,δ1,E,r1,h1,fun σ1 H1 s1 E1 l1=>⟨Z,B,δ1,ds,δ',E1,r2.same s1,h2,fun σ2 H2 s2 E2 l2=>q σ2 H2 (s1.trans s2) E2 (l2.trans l1)⟩⟩
noncomputable def ip(n:Nat)(t:Ad):FT:=fun d δ=>match d with | .tup ds=>R.bt (decide (ds.length=n)) (t ds δ) | _=> .no
theorem CV{es:List Expr}{k:Nat}{t:Ad}{n:Nat}{pos:Pos}(hc:X.calm=true)(h:AQ X es t)(hn:(assignEach es X.env).length=n:=by rfl)(hst:(assignEach es X.env).findIdx? (·.1)=none:=by rfl):GJ X (.Tuple es k pos) (ip n t):=
 (Ar hc h hn hst).imp fun v σ H Q ⟨Z,B,δ,d,δ',E,r,ht,q⟩=>by
   cases d with
   | tup ds=>
     unfold Rep at r
     obtain⟨a,xs,rfl,l,r⟩:=r
     obtain⟨hl,h⟩:=R.aS ht
     exact⟨a,xs,rfl,l.sq,by rw[←r.length];exact of_decide_eq_true hl,Z,B,δ,ds,δ',E,r,h,q⟩
   | _=>cases ht
noncomputable def vq(f:FD)(t:FT):FS:=fun δ=>(f δ).bind fun d=>(t d δ).bind fun δ'=> .ok (.nx δ')
noncomputable def xH(K:PySem.W.Frag)(B:List Addr)(H:Hp)(J:It)(ds:List D):Prop:=∀B' H',c_ B H B' H'→(∀(i:Nat) (d:D),ds[i]? =some d→J.go i H'∧∀x H'',J.yld i H' x H''→(∀a∈B',∃o,H' a=some o)→aK H' H''∧Rep K B' H'' d x)∧J.stop ds.length H'
noncomputable def iD(K:PySem.W.Frag)(f:aq→R (List D)):TI:=fun σ H R=>∃Z B δ ds,dH K Z B H σ δ∧f δ= .ok ds∧∀J H1,aK H H1→xH K B H1 J ds→R J H1
noncomputable abbrev GK(X:Cx)(tg e:Expr)(f:aq→R (List D)):Prop:=PI X tg e (iD X.K f)
noncomputable def c0(f:FD):aq→R (List D):=fun δ=>(f δ).bind fun d=>match d with | .lst ds=> .ok ds | .tup ds=> .ok ds | _=> .no
theorem DL{tg e:Expr}{f:FD}(h:PD X e f):GK X tg e (c0 f):=by
 intro pins s σ H RR I ⟨Z,B,δ,ds,E,hf,q⟩
 obtain⟨d,h1,h2⟩:=R.ab hf
 refine dw (h pins s σ H (fun v H1=>aK H H1∧Rep X.K B H1 d v) I ⟨Z,B,δ,d,E,h1,fun v H1 s1 r1=>⟨s1,r1⟩⟩) fun v s1 ⟨x,H1,I1,r1,ss,rr⟩=>?_
 cases d with
 | lst es=>
   cases h2
   unfold Rep at rr
   obtain⟨a,xs,rfl,l,rr⟩:=rr
   cases r1
   obtain⟨its,rv,p,hz⟩:=I1.list l.sq
   refine wpAny_pyIter_list p.isList ?_
   refine⟨s1.heap.objs.size,[s1.heap.objs.size],_,_,H1,rfl,I1.kept (t':=s1.toks) fun b o e=>Heap.get?_push_of_some _ e,rf a _,⟨_,Heap.get?_push_size _ rfl,rfl,rfl⟩,fun b hb=>?_,q _ H1 ss fun B' H' pr=>?_⟩
   ·have e:b=s1.heap.objs.size:=by simpa using hb
    subst e
    exact I1.n6 (Nat.le_refl _) (I1.hok.fresh (Nat.le_refl _))
   ·have l':ql X.K B' H' a xs:=l.aZ pr
    have rr':=rr.aZ pr
    refine⟨fun i d hd=>?_,⟨xs,l'.sq,by rw[rr.length];exact Nat.le_refl _⟩⟩
    obtain⟨x,hx,rx⟩:=rr'.get hd
    exact⟨⟨xs,x,l'.sq,hx⟩,fun y H'' ⟨e1,e2⟩ _=>by
     subst e1
     have:=e2 xs l'.sq
     rw[hx] at this
     cases this
     exact⟨aK.refl _,rx⟩⟩
 | tup es=>
   cases h2
   unfold Rep at rr
   obtain⟨a,xs,rfl,l,rr⟩:=rr
   cases r1
   obtain⟨its,rv,p,hz⟩:=I1.tuple l.sq
   refine wpAny_pyIter_tuple (show s1.heap.IsTuple a its.toArray from p) ?_
   refine⟨s1.heap.objs.size,[s1.heap.objs.size],_,_,H1,rfl,I1.kept (t':=s1.toks) fun b o e=>Heap.get?_push_of_some _ e,wA a _,⟨_,Heap.get?_push_size _ rfl,rfl,rfl⟩,fun b hb=>?_,q _ H1 ss fun B' H' pr=>?_⟩
   ·have e:b=s1.heap.objs.size:=by simpa using hb
    subst e
    exact I1.n6 (Nat.le_refl _) (I1.hok.fresh (Nat.le_refl _))
   ·have l':qO X.K B' H' a xs:=l.elim (fun z=> .inl ⟨(pr.rd z.2 z.1).2,(pr.rd z.2 z.1).1⟩) .inr
    have rr':=rr.aZ pr
    refine⟨fun i d hd=>?_,⟨xs,l'.sq,by rw[rr.length];exact Nat.le_refl _⟩⟩
    obtain⟨x,hx,rx⟩:=rr'.get hd
    exact⟨⟨xs,x,l'.sq,hx⟩,fun y H'' ⟨e1,e2⟩ _=>by
     subst e1
     have:=e2 xs l'.sq
     rw[hx] at this
     cases this
     exact⟨aK.refl _,rx⟩⟩
 | _=>cases h2
noncomputable def gp(lo:Int)(n:Nat):List D:=(List.range n).map fun(i:Nat)=>D.int (lo+i)
theorem Bv{K:PySem.W.Frag}{B:List Addr}{H:Hp}(lo:Int)(n:Nat):xH K B H (Ig lo n) (gp lo n):=fun B' H' _=>by
 refine⟨fun i d hd=>?_,?_⟩
 ·unfold gp at hd
  rw[List.getElem?_map] at hd
  cases e:(List.range n)[i]? with
  | none=>rw [e] at hd;cases hd
  | some j=>
    rw[e] at hd
    cases hd
    obtain⟨hi,ej⟩:=List.getElem?_eq_some_iff.mp e
    rw[List.getElem_range] at ej
    subst ej
    rw[List.length_range] at hi
    exact⟨hi,fun x H'' ⟨e1,e2⟩ _=>by subst e1 e2;exact⟨aK.refl _,by unfold Rep;rfl⟩⟩
 ·show n≤(gp lo n).length
  unfold gp
  rw[List.length_map,List.length_range]
  exact Nat.le_refl _
noncomputable def j2(f:FD):aq→R (List D):=fun δ=>(f δ).bind fun d=>match d with | .int j=>R.bt (decide (-(2 ^ 62)≤j∧j < 2 ^ 62)) (.ok (gp 0 j.toNat)) | _=> .no
theorem wG{tg a:Expr}{f:FD}{p pos:Pos}(h:PD X a f)(hg:Gl X "range")(hm:X.mg "range"=none)(hs:starEach [a] X.env=[(false,eval a X.env)]:=by rfl):GK X tg (.Call (.Name "range" p) [a] [] pos) (j2 f):=
 (qY hg hm (dz h f7 hs) hs).imp fun σ H RR ⟨Z,B,δ,ds,E,hf,q⟩=>by
   obtain⟨d,h1,h2⟩:=R.ab hf
   cases d with
   | int j=>
     obtain⟨hb,h3⟩:=R.aS h2
     cases h3
     have hb:=of_decide_eq_true hb
     refine⟨Z,B,δ, .int j,E,h1,fun v H1 s1 r1=>⟨j,?_,hb.1,hb.2,q _ H1 s1 (Bv 0 _)⟩⟩
     unfold Rep at r1
     rw[r1]
   | _=>cases h2
noncomputable def IT(f g:FD):aq→R (List D):=fun δ=>(f δ).bind fun d=>(g δ).bind fun e=>match d,e with
 | .int i, .int j=>R.bt (decide (-(2 ^ 62)≤i∧i < 2 ^ 62∧ -(2 ^ 62)≤j∧j < 2 ^ 62)) (.ok (gp i (j - i).toNat)) | _,_=> .no
noncomputable def nP(t:FT)(body:FS):List D→FS
 | [],δ=> .ok (.nx δ)
 | d ::ds,δ=>(t d δ).bind fun δ1=>(body δ1).bind fun o=>match o with | .nx δ2=>nP t body ds δ2 | .rt r=> .ok (.rt r)
noncomputable def wK(it:aq→R (List D))(t:FT)(body:FS):FS:=fun δ=>(it δ).bind fun ds=>nP t body ds δ
theorem C6{tg iter:Expr}{body:List Stmt}{it:aq→R (List D)}{t:FT}{F:FS}{pos:Pos}(hp:PassesOwn (model X.prog X.w) X.A X.env X.xe)(hc:X.calm=true)(hi:GK X tg iter it)(hg:GJ X tg t)(hb:n0 X body F)
 (hs:∀x,foldedSetIterable iter X.env x=pure x:=by intro _;rfl):CJ X (.For tg iter body [] pos) (wK it t F):=(vS hp hc hi hg hb hs).imp fun D σ H ⟨Z,B,δ,o,E,hf,q⟩=>by
 obtain⟨ds,h1,h2⟩:=R.ab hf
 refine⟨Z,B,δ,ds,E,h1,fun J H1 s1 ir=>?_⟩
 refine⟨fun i m σ' H'=>m=ds.length - i∧i≤ds.length∧∃B' δ',Ev Z B H1 B' H'∧dH X.K Z B' H' σ' δ'∧nP t F (ds.drop i) δ'= .ok o,⟨ds.length,rfl,Nat.zero_le _,B,δ,Ev.refl Z B H1 E.zb,E.same s1,by simpa using h2⟩,?_⟩
 rintro i m σ' H' ⟨rfl,hi,B',δ',ev,E',hl⟩
 obtain⟨go,stop⟩:=ir B' H' ev.aZ
 by_cases hlt:i < ds.length
 ·have hd:ds[i]? =some ds[i]:=List.getElem?_eq_getElem hlt
  have hdrop:ds.drop i=ds[i] ::ds.drop (i+1):=List.drop_eq_getElem_cons hlt
  rw[hdrop] at hl
  obtain⟨δ1,h3,h4⟩:=R.ab hl
  obtain⟨o1,h5,h6⟩:=R.ab h4
  obtain⟨g1,g2⟩:=go i _ hd
  refine .inr ⟨g1,fun σ2 H2=>∃B2 δ2,Ev Z B H1 B2 H2∧dH X.K Z B2 H2 σ2 δ2∧nP t F (ds.drop (i+1)) δ2= .ok o,fun σ2 H2 n=>⟨ds.length - (i+1),by omega,rfl,hlt,n⟩,fun x H'' y=>?_⟩
  obtain⟨ss,rr⟩:=g2 x H'' y E'.bs
  refine⟨Z,B',δ',ds[i],δ1,E'.same ss,rr,h3,fun σ2 H2 s2 E2 l2=>⟨Z,B',δ1,o1,E2,h5,?_⟩⟩
  have ev2:Ev Z B H1 B' H2:=ev.trans (Ev.same E'.zb (ss.trans s2))
  cases o1 with
  | nx δ2=>exact fun σ3 B3 H3 ev3 E3=>⟨B3,δ2,ev2.trans ev3,E3,h6⟩
  | rt d=>
    cases h6
    exact fun v B3 H3 ev3 z r=>q v B3 H3 ((Ev.same E.zb s1).trans (ev2.trans ev3)) z r
 ·have e:i=ds.length:=by omega
  subst e
  rw[List.drop_length] at hl
  cases hl
  exact .inl ⟨stop,q σ' B' H' ((Ev.same E.zb s1).trans ev) E'⟩
noncomputable def Aw(c:aq→R Bool)(body:FS):Nat→FS
 | 0,_=> .no
 | n+1,δ=>(c δ).bind fun b=>if b then(body δ).bind fun o=>match o with | .nx δ2=>Aw c body n δ2 | .rt r=> .ok (.rt r) else .ok (.nx δ)
noncomputable def Jh(n:Nat)(c:aq→R Bool)(body:FS):FS:=fun δ=>Aw c body n δ
noncomputable def o7(δ:aq)(i:Nat):Sl:=match δ[i]? with | some (.val d)=> .val d | _=> .un
noncomputable def qB(own:List Str)(kp:List Nat)(δ:aq):aq:=List.replicate own.length .un++kp.map (o7 δ)
noncomputable def me(t:FT)(c:aq→R Bool)(f:FD)(δ:aq):List D→R (List D)
 | []=> .ok []
 | d ::ds=>(t d δ).bind fun δ1=>(c δ1).bind fun b=>if b then(f δ1).bind fun y=>(me t c f δ ds).bind fun ys=> .ok (y ::ys) else me t c f δ ds
noncomputable def et(it:aq→R (List D))(t:FT)(c:aq→R Bool)(f:FD)(own:List Str)(kp:List Nat):aq→R (List D):=fun δ=>(it δ).bind fun ds=>R.bt (decide (ds.length≤sizeLine)) (me t c f (qB own kp δ) ds)
theorem EE{K:PySem.W.Frag}{Z B B':List Addr}{H H':Hp}{σ:St}{δ:aq}{own:List Str}{kp:List Nat}(E:dH K Z B H σ δ)(p:c_ B H B' H')(hB:∀a∈B',∃o,H' a=some o):dH K [] B' H' (c8 own kp σ) (qB own kp δ) where
 len:=by unfold c8 qB;simp
 bs:=hB
 zb:=fun a ha=>by cases ha
 val:=fun i d e=>by
  unfold qB at e
  unfold c8
  by_cases hi:i < own.length
  ·rw[List.getElem?_append_left (by simpa using hi),List.getElem?_replicate] at e
   split at e <;> cases e
  ·rw[List.getElem?_append_right (by simpa using hi),List.length_replicate,List.getElem?_map] at e ⊢
   cases q:kp[i - own.length]? with
   | none=>rw [q] at e;cases e
   | some j=>
     rw[q] at e
     have e:o7 δ j= .val d:=Option.some.inj e
     unfold o7 at e
     split at e
     ·rename_i d' ed
      cases e
      obtain⟨v,h1,h2⟩:=E.val j d ed
      exact⟨v,by simp [h1],h2.aZ p⟩
     ·cases e
 bld:=fun i ds e=>by
  unfold qB at e
  by_cases hi:i < own.length
  ·rw[List.getElem?_append_left (by simpa using hi),List.getElem?_replicate] at e
   split at e <;> cases e
  ·rw[List.getElem?_append_right (by simpa using hi),List.length_replicate,List.getElem?_map] at e
   cases q:kp[i - own.length]? with
   | none=>rw [q] at e;cases e
   | some j=>
     rw[q] at e
     have e:o7 δ j= .bld ds:=Option.some.inj e
     unfold o7 at e
     split at e <;> cases e
 dis:=fun i j a ds es e=>by
  unfold qB at e
  by_cases hi:i < own.length
  ·rw[List.getElem?_append_left (by simpa using hi),List.getElem?_replicate] at e
   split at e <;> cases e
  ·rw[List.getElem?_append_right (by simpa using hi),List.length_replicate,List.getElem?_map] at e
   cases q:kp[i - own.length]? with
   | none=>rw [q] at e;cases e
   | some j=>
     rw[q] at e
     have e:o7 δ j= .bld ds:=Option.some.inj e
     unfold o7 at e
     split at e <;> cases e
theorem De{K:PySem.W.Frag}{it:aq→R (List D)}{t:FT}{c:aq→R Bool}{f:FD}{own:List Str}{kp:List Nat}{σ:St}{H:Hp}{Q:VK}(h:tN K (et it t c f own kp) σ H Q) :
 xg (iD K it) (gD K t) (Fz K c) (tD K f) own kp σ H Q:=by
 obtain⟨Z,B,δ,ds,E,hf,q⟩:=h
 obtain⟨es,h1,h2⟩:=R.ab hf
 obtain⟨hl,h3⟩:=R.aS h2
 have hl:=of_decide_eq_true hl
 refine⟨Z,B,δ,es,E,h1,fun J H1 s1 ir Dd hD=>?_⟩
 have E1:=E.same s1
 have pD:c_ B H1 (Dd ::B) (upd H1 Dd (.lst [])):=t_ hD
 refine⟨fun i m ys H'=>m=es.length - i∧i≤es.length∧ys.length≤i∧H' Dd=some (.lst ys)∧aK H1 H'∧∃done rest,ds=done++rest∧ay K (Dd ::B) H' done ys∧me t c f (qB own kp δ) (es.drop i)= .ok rest,
  ⟨es.length,rfl,Nat.zero_le _,Nat.le_refl _,aN,aD hD,[],ds,rfl,ay.nil,by simpa using h3⟩,?_⟩
 rintro i m ys H' ⟨rfl,hi,hy,hDl,ss,done,rest,rfl,rd,hc⟩
 have dB:Dd ∉ B:=fun hb=>by obtain⟨o,ho⟩:=E1.bs Dd hb;rw [hD] at ho;cases ho
 have p':c_ B H1 (Dd ::B) H':=fun b o e nb=>⟨ss b o e,fun hb=>by
  rcases List.mem_cons.mp hb with z | z
  ·exact bY e hD z
  ·exact nb z⟩
 have hB':∀a∈Dd ::B,∃o,H' a=some o:=fun a ha=>by
  rcases List.mem_cons.mp ha with z | z
  ·subst z;exact⟨_,hDl⟩
  ·obtain⟨o,ho⟩:=E1.bs a z;exact⟨o,ss a o ho⟩
 obtain⟨go,stop⟩:=ir (Dd ::B) H' p'
 by_cases hlt:i < es.length
 ·have hd:es[i]? =some es[i]:=List.getElem?_eq_getElem hlt
  have hdrop:es.drop i=es[i] ::es.drop (i+1):=List.drop_eq_getElem_cons hlt
  rw[hdrop] at hc
  obtain⟨δ1,h4,h5⟩:=R.ab hc
  obtain⟨b,h6,h7⟩:=R.ab h5
  obtain⟨g1,g2⟩:=go i _ hd
  refine .inr ⟨g1,fun x H2 y=>?_⟩
  obtain⟨sy,ry⟩:=g2 x H2 y hB'
  have Ec:dH K [] (Dd ::B) H2 (c8 own kp σ) (qB own kp δ):=EE E1 (p'.trans (c_.same sy)) fun a ha=>let⟨o,ho⟩:=hB' a ha;⟨o,sy a o ho⟩
  refine⟨[],Dd ::B,qB own kp δ,es[i],δ1,Ec,ry,h4,fun σ3 H3 s3 E3 _=>⟨[],Dd ::B,δ1,b,E3,h6,fun H4 s4=>?_⟩⟩
  have sAll:aK H' H4:=sy.trans (s3.trans s4)
  cases b with
  | true=>
    rw[if_pos rfl] at h7
    refine y4 ?_
    obtain⟨yv,h8,h9⟩:=R.ab h7
    obtain⟨rs,h10,h11⟩:=R.ab h9
    cases h11
    refine⟨[],Dd ::B,δ1,yv,E3.same s4,h8,fun v H5 s5 r5=>?_⟩
    have s':aK H' H5:=sAll.trans s5
    have hD5:H5 Dd=some (.lst ys):=s' Dd _ hDl
    have pu:c_ (Dd ::B) H5 (Dd ::B) (upd H5 Dd (.lst (ys++[v]))):=fun b o e nb=>⟨by rw[aT (fun(z:b=Dd)=>nb (by rw[z];exact List.mem_cons_self))];exact e,nb⟩
    refine⟨hD5,by omega,es.length - (i+1),by omega,rfl,hlt,by rw[List.length_append,List.length_singleton];omega,aN,fun b o e=>?_,done++[yv],rs,by simp,((rd.same s').append (ay.cons r5 ay.nil)).aZ pu,h10⟩
    rw[aT (bY e hD)]
    exact s' b o (ss b o e)
  | false=>
    rw[if_neg (by decide)] at h7
    refine zc ?_
    exact⟨es.length - (i+1),by omega,rfl,hlt,by omega,sAll Dd _ hDl,ss.trans sAll,done,rest,rfl,rd.same sAll,h7⟩
 ·have e:i=es.length:=by omega
  subst e
  rw[List.drop_length] at hc
  cases hc
  rw[List.append_nil] at q
  exact .inl ⟨stop,q Dd ys H' (s1.trans ss) (s1.free hD) hDl rd⟩
theorem Cc{scope:Scope}{own:List Str}{kp:List Nat}{kn:List Str}{tg iter elt:Expr}{ifs:List Expr}{it:aq→R (List D)}{t:FT}{c:aq→R Bool}{f:FD}{pos:Pos}(hc:X.calm=true)(C:bM X scope own kp kn)(hi:GK X tg iter it)
 (hg:∀fp s H,GJ (bw X scope (own++kn) fp s H) tg t) (hif:∀fp s H,mW (bw X scope (own++kn) fp s H) ifs (Fz X.K c)) (he:∀fp s H,PD (bw X scope (own++kn) fp s H) elt f)
 (hs:∀x,foldedSetIterable iter X.env x=pure x:=by intro _;rfl):PN X (.ListComp elt [⟨tg,iter,ifs,0⟩] scope pos) (et it t c f own kp):=
 (xU hc C hi hg hif he hs).imp fun σ H Q h=>De h
noncomputable def jV:aq→R Bool:=fun _=> .ok true
theorem Ah:mW X [] (Fz X.K jV):=fun pins s σ H Q I ⟨Z,B,δ,b,E,hf,q⟩=>u0 pins s σ H Q I (by cases hf;exact q H (aK.refl H))
theorem CD{e:Expr}{c:aq→R Bool}(h:PB X e c):mW X [e] (Fz X.K c):=vb h
end
noncomputable def dk(N:List Str)(ds:List D):aq:=ds.map .val++List.replicate (N.length - ds.length) .un
noncomputable def oz(N:List Str)(F:FS):List D→R D:=fun ds=>(F (dk N ds)).bind fun o=>match o with | .rt d=> .ok d | .nx _=> .ok .bX
theorem DJ{K:PySem.W.Frag}{B:List Addr}{H:Hp}{N:List Str}{ds:List D}{vs:List V}(hB:∀a∈B,∃o,H a=some o)(r:ay K B H ds vs):dH K B B H (start N vs) (dk N ds) where
 len:=by unfold start dk;simp [r.length]
 bs:=hB
 zb:=fun a ha=>ha
 val:=fun i d e=>by
  unfold dk at e
  unfold start
  by_cases hi:i < ds.length
  ·rw[List.getElem?_append_left (by simpa using hi),List.getElem?_map] at e
   cases q:ds[i]? with
   | none=>rw [q] at e;cases e
   | some d'=>
     rw[q] at e
     cases e
     obtain⟨x,h1,h2⟩:=r.get q
     exact⟨x,by rw[List.getElem?_append_left (by rw[List.length_map,←r.length];exact hi),List.getElem?_map,h1];rfl,h2⟩
  ·rw[List.getElem?_append_right (by simpa using hi),List.getElem?_replicate] at e
   split at e <;> cases e
 bld:=fun i es e=>by
  unfold dk at e
  by_cases hi:i < ds.length
  ·rw[List.getElem?_append_left (by simpa using hi),List.getElem?_map] at e
   cases q:ds[i]? with
   | none=>rw [q] at e;cases e
   | some d'=>rw [q] at e;cases e
  ·rw[List.getElem?_append_right (by simpa using hi),List.getElem?_replicate] at e
   split at e <;> cases e
 dis:=fun i j a es fs e=>by
  unfold dk at e
  by_cases hi:i < ds.length
  ·rw[List.getElem?_append_left (by simpa using hi),List.getElem?_map] at e
   cases q:ds[i]? with
   | none=>rw [q] at e;cases e
   | some d'=>rw [q] at e;cases e
  ·rw[List.getElem?_append_right (by simpa using hi),List.getElem?_replicate] at e
   split at e <;> cases e
theorem DD{P:Program}{w:World}{K:PySem.W.Frag}{mg:Str→Option Value}{base:Heap}{x qual:Str}{st:Stmt}{f:Addr}{fd:FuncData}{N ps:List Str}{k:Nat}{F:FS}(Fn:xQ K x qual st f fd)(S:bf N ps (ae st))
 (hbody:∀(cdv:Value) (A:Around) (outer:List Env) (s:Shared) (H:Hp) (E:XK),dS k (A.deeper (envOfC qual (ae st) s.heap.objs.size f cdv))→
   n0 (pe qk P w K mg base N qual (ae st) f cdv A outer s H E).C3 (aj st) F):f_ P w K mg base qk (k+1) f fd ps (A1 K ps.length (oz N F)):=by
 refine Fn.ok S (fun vs H Q E h=>h.1) (fun cdv A outer s H vs Q E hr h=>⟨_,hbody cdv A outer s H E hr,?_⟩)
 obtain⟨_,B,ds,d,hB,r,hg,q⟩:=h
 obtain⟨o,h1,h2⟩:=R.ab hg
 refine⟨B,B,dk N ds,o,DJ hB r,h1,?_⟩
 have sm:∀{B':List Addr} {H':Hp},Ev B B H B' H'→aK H H':=fun {B' H'} ev b u e=>by
  by_cases hb:b∈B
  ·exact(ev.zs b u e hb).1
  ·exact(ev.aZ b u e hb).1
 cases o with
 | nx δ'=>
   cases h2
   exact fun σ' B' H' ev _=>q _ H' (sm ev) (by unfold Rep;rfl)
 | rt d'=>
   cases h2
   exact fun v B' H' ev z rr=>q v H' (sm ev) (rr.aZ fun b o e nb=>⟨e,fun hb=>nb (z b hb)⟩)
end L2
end
section
set_option maxRecDepth 100000
set_option maxHeartbeats 4000000
namespace L2
open PySem PySem.Spec PyProof.Rows
theorem Rep.int{K:PySem.W.Frag}{B:List Addr}{H:Hp}{i:Int}{v:V}:Rep K B H (.int i) v↔v= .int i:=by unfold Rep;exact Iff.rfl
theorem Rep.bl{K:PySem.W.Frag}{B:List Addr}{H:Hp}{i:Bool}{v:V}:Rep K B H (.bl i) v↔v= .bl i:=by unfold Rep;exact Iff.rfl
theorem Rep.str{K:PySem.W.Frag}{B:List Addr}{H:Hp}{i:Str}{v:V}:Rep K B H (.str i) v↔v= .str i:=by unfold Rep;exact Iff.rfl
theorem Rep.bX{K:PySem.W.Frag}{B:List Addr}{H:Hp}{v:V}:Rep K B H .bX v↔v= .bX:=by unfold Rep;exact Iff.rfl
theorem Rep.lst{K:PySem.W.Frag}{B:List Addr}{H:Hp}{ds:List D}{v:V}:Rep K B H (.lst ds) v↔∃a xs,v= .ref a∧ql K B H a xs∧ay K B H ds xs:=by rw[Rep]
theorem Rep.tup{K:PySem.W.Frag}{B:List Addr}{H:Hp}{ds:List D}{v:V}:Rep K B H (.tup ds) v↔∃a xs,v= .ref a∧qO K B H a xs∧ay K B H ds xs:=by rw[Rep]
section
variable {X:Cx}
theorem iT.of{f:Value→Value→Sem Value}{r:R2}{g:D→D→R D}(h:jG X f r)
 (w:∀(B:List Addr) (H:Hp) (da db d:D) (x y:V) (Q:VK),(∀a∈B,∃o,H a=some o)→Rep X.K B H da x→Rep X.K B H db y→g da db= .ok d→(∀z H',aK H H'→Rep X.K B H' d z→Q z H')→r x y H Q):iT X f g:=by
 intro pins s σ H B da db d x y v u I hb rx ry ra rb hg
 exact h pins s σ H x y v u _ I rx ry (w B H da db d x y _ hb ra rb hg fun z H' s1 r1=>⟨s1,r1⟩)
theorem cS.of{f:Value}{r:List V→Hp→VK→Prop}{g:List D→R D}(h:jH X f r)
 (w:∀(B:List Addr) (H:Hp) (ds:List D) (d:D) (xs:List V) (Q:VK),(∀a∈B,∃o,H a=some o)→ay X.K B H ds xs→g ds= .ok d→(∀z H',aK H H'→Rep X.K B H' d z→Q z H')→r xs H Q):cS X f g:=by
 intro pins s σ H B ds d xs us I hb rx rs hg
 exact h pins s σ H xs us _ I rx (w B H ds d xs _ hb rs hg fun z H' s1 r1=>⟨s1,r1⟩)
theorem cS.or{f:Value}{g g1 g2:List D→R D}(h1:cS X f g1)(h2:cS X f g2)(e:∀a d,g a= .ok d→g1 a= .ok d∨g2 a= .ok d):cS X f g:=by
 intro pins s σ H B ds d xs us I hb rx rs hg
 rcases e ds d hg with q | q
 ·exact h1 pins s σ H B ds d xs us I hb rx rs q
 ·exact h2 pins s σ H B ds d xs us I hb rx rs q
noncomputable def tJ(C:Int→Int→Bool)(g:Int→Int→Int):D→D→R D
 | .int i, .int j=>R.bt (C i j) (.ok (.int (g i j)))
 | _,_=> .no
theorem xE{f:Value→Value→Sem Value}{C:Int→Int→Bool}{Cp:Int→Int→Prop}{g:Int→Int→Int}(h:jG X f (rI Cp fun i j=> .int (g i j)))(hc:∀i j,C i j=true→Cp i j):iT X f (tJ C g):=
 iT.of h fun B H da db d x y Q _ ra rb hg q=>by
  unfold tJ at hg
  split at hg
  ·obtain⟨h1,h2⟩:=R.aS hg
   cases h2
   exact⟨_,_,Rep.int.mp ra,Rep.int.mp rb,hc _ _ h1,q _ H (aK.refl H) (Rep.int.mpr rfl)⟩
  ·cases hg
noncomputable def mX(g:Int→Int→Int):D→D→R D
 | .int i, .int j=> .ok (.int (g i j))
 | _,_=> .no
theorem rS{f:Value→Value→Sem Value}{g:Int→Int→Int}(h:jG X f (zp fun i j=> .int (g i j))):iT X f (mX g):=
 iT.of h fun B H da db d x y Q _ ra rb hg q=>by
  unfold mX at hg
  split at hg
  ·cases hg
   exact⟨_,_,Rep.int.mp ra,Rep.int.mp rb,q _ H (aK.refl H) (Rep.int.mpr rfl)⟩
  ·cases hg
noncomputable def ze(g:Int→Int→Bool):D→D→R D
 | .int i, .int j=> .ok (.bl (g i j))
 | _,_=> .no
theorem AW{f:Value→Value→Sem Value}{g:Int→Int→Bool}(h:jG X f (zp fun i j=> .bl (g i j))):iT X f (ze g):=
 iT.of h fun B H da db d x y Q _ ra rb hg q=>by
  unfold ze at hg
  split at hg
  ·cases hg
   exact⟨_,_,Rep.int.mp ra,Rep.int.mp rb,q _ H (aK.refl H) (Rep.bl.mpr rfl)⟩
  ·cases hg
noncomputable abbrev lJ:D→D→R D:=mX fun i j=>i - j
theorem pq:iT X (binaryOp .Sub) lJ:=rS F9
noncomputable abbrev jN:D→D→R D:=tJ (fun _ j=>decide (0 < j∧j < 1073741824)) fun i j=>i / j
theorem A3:iT X (binaryOp .FloorDiv) jN:=xE Dz fun i j h=>(of_decide_eq_true h:0 < j∧j < 1073741824)
noncomputable abbrev jQ:D→D→R D:=tJ (fun _ j=>decide (0 < j)) fun i j=>i % j
theorem q9:iT X (binaryOp .Mod) jQ:=xE Fc fun i j h=>of_decide_eq_true h
noncomputable abbrev sC:D→D→R D:=tJ (fun i j=>decide (0≤j∧j≤1000000∧i.natAbs < 2 ^ 64)) fun i j=>i ^ j.toNat
theorem H0:iT X (binaryOp .Pow) sC:=xE EO fun i j h=>(of_decide_eq_true h:0≤j∧j≤1000000∧i.natAbs < 2 ^ 64)
noncomputable abbrev vv:D→D→R D:=tJ (fun _ j=>decide (0≤j)) fun i j=>i / 2 ^ j.toNat
noncomputable abbrev Dv:D→D→R D:=mX fun i j=>Builtin.bitAnd i j
theorem vD:iT X (binaryOp .BitAnd) Dv:=rS E5
noncomputable abbrev BX:D→D→R D:=mX fun i j=>Builtin.bitOr i j
theorem va:iT X (binaryOp .BitOr) BX:=rS G4
noncomputable abbrev xi:D→D→R D:=mX fun i j=>Builtin.bitXor i j
theorem qr:iT X (binaryOp .BitXor) xi:=rS Gi
noncomputable abbrev Gh:D→D→R D:=ze fun i j=>decide (i < j)
noncomputable abbrev vF:D→D→R D:=ze fun i j=>decide (i≤j)
theorem EA:iT X (compareOp .LtE) vF:=AW GV
noncomputable abbrev zq:D→D→R D:=ze fun i j=>decide (j < i)
theorem Gs:iT X (compareOp .Gt) zq:=AW HY
noncomputable abbrev Dl:D→D→R D:=ze fun i j=>decide (j≤i)
theorem JD:iT X (compareOp .GtE) Dl:=AW Ij
theorem ql.lG{K:PySem.W.Frag}{B:List Addr}{H:Hp}{a:Addr}{xs:List V}(h:H a=some (.lst xs))(n:a ∉ B):ql K B H a xs:= .inl ⟨n, .inl h⟩
theorem Inv.D0{pins:List (Addr × Obj)}{σ:St}{H:Hp}{s:Shared}{a:Addr}{xs:List V}{B:List Addr}(I:Inv X pins σ H s)(h:ql X.K B H a xs):∃(its:List Value) (n:Nat),Vals xs its∧s.heap.get? a=some {cls:= .type "list",data:= .seq its.toArray n}∧xs.length≤sizeLine:=by
 rcases h with⟨_,h⟩ | ⟨its,n,hk,hz,r⟩
 ·obtain⟨z,its,n,r,e⟩:=h.ok I.hok
  exact⟨its,n,r,e,z⟩
 ·exact⟨its,n,r,I.mQ a _ hk,hz⟩
theorem Cj:jG X (binaryOp .Add) (fun x y H Q=>∃B l b xs zs,x= .ref l∧y= .ref b∧ql X.K B H l xs∧ql X.K B H b zs∧xs.length+zs.length≤sizeLine∧∀p,H p=none→Q (.ref p) (upd H p (.lst (xs++zs)))):=by
 intro pins s σ H x y v u Q I rx ry h
 obtain⟨B,l,b,xs,zs,rfl,rfl,hH,hB,hz,q⟩:=h
 cases rx
 cases ry
 obtain⟨its,n,r,e,_⟩:=I.D0 hH
 obtain⟨its2,n2,r2,e2,_⟩:=I.D0 hB
 have l1:=r.length
 have l2:=r2.length
 refine PySem.P.add_list e e2 ?_ (by rw[List.size_toArray,List.size_toArray];omega)
 have ea:its.toArray++its2.toArray=(its++its2).toArray:=by simp
 rw[ea]
 exact⟨.ref _,_,I.Ce (t':=s.toks) (r.append r2) (by rw[List.length_append];omega),rfl,q _ I.fresh⟩
noncomputable def fZ:D→D→R D
 | .int i, .int j=> .ok (.int (i+j))
 | .str a, .str b=>R.bt (decide (a.length+b.length≤sizeLine)) (.ok (.str (a++b)))
 | .lst a, .lst b=>R.bt (decide (a.length+b.length≤sizeLine)) (.ok (.lst (a++b)))
 | _,_=> .no
theorem iA:iT X (binaryOp .Add) fZ:=by
 intro pins s σ H B da db d x y v u I hb rx ry ra rb hg
 unfold fZ at hg
 split at hg
 ·cases hg
  exact Gb pins s σ H x y v u _ I rx ry ⟨_,_,Rep.int.mp ra,Rep.int.mp rb,aK.refl H,Rep.int.mpr rfl⟩
 ·obtain⟨h1,h2⟩:=R.aS hg
  cases h2
  exact vW pins s σ H x y v u _ I rx ry ⟨_,_,Rep.str.mp ra,Rep.str.mp rb,of_decide_eq_true h1,aK.refl H,Rep.str.mpr rfl⟩
 ·obtain⟨h1,h2⟩:=R.aS hg
  cases h2
  obtain⟨a1,xs1,rfl,l1,r1⟩:=Rep.lst.mp ra
  obtain⟨a2,xs2,rfl,l2,r2⟩:=Rep.lst.mp rb
  refine Cj pins s σ H _ _ v u _ I rx ry ⟨B,a1,a2,xs1,xs2,rfl,rfl,l1,l2,by rw[←r1.length,←r2.length];exact of_decide_eq_true h1,fun p hp=>⟨aD hp,Rep.lst.mpr ⟨p,_,rfl, .lG aN fun ha=>?_,(r1.append r2).same (aD hp)⟩⟩⟩
  obtain⟨o,ho⟩:=hb p ha
  rw[hp] at ho;cases ho
 ·cases hg
theorem Cr:jG X (binaryOp .Mult) (fun x y H Q=>∃z n,x= .str z∧y= .int n∧MulOk z n∧Q (.str (Txt.mul z n)) H):=by
 intro pins s σ H x y v u Q I rx ry h
 obtain⟨z,n,rfl,rfl,hm,q⟩:=h
 obtain⟨t,rfl⟩:=rx
 obtain⟨t',rfl⟩:=ry
 exact SB.mul hm fun t2 k=>⟨.str _,H,I.tok _,⟨_,rfl⟩,q⟩
end
end L2
end
section
set_option maxRecDepth 100000
set_option maxHeartbeats 4000000
namespace L2
open PySem PySem.Spec PyProof.Rows
section
variable {X:Cx}
theorem mulOk_of{x:Str}{n:Int}(h1: -(2 ^ 63)≤n)(h2:n < 2 ^ 63)(h3:x.length*n.toNat≤sizeLine):MulOk x n:=by
 refine⟨by simp only[Bool.or_eq_false_iff,decide_eq_false_iff_not];omega,fun hn _=>?_,fun hn _=>?_⟩
 ·have hz:sizeLine=16777216:=sizeLine_eq
  have e:(n.toNat:Int)=n:=by omega
  have h4:(x.length:Int)*n≤16777216:=by
   have:((x.length*n.toNat:Nat):Int)≤((16777216:Nat):Int):=Int.ofNat_le.mpr (by omega)
   rw[Int.natCast_mul,e] at this
   exact this
  have:(x.length:Int)≤(2 ^ 63 - 1) / n:=(Int.le_ediv_iff_mul_le (by omega)).mpr (by omega)
  omega
 ·unfold Builtin.Str.tooLong;exact decide_eq_false (by omega)
noncomputable def kJ:D→D→R D
 | .int i, .int j=>R.bt (decide ((-(2 ^ 64) < i∧i < 2 ^ 64)∨(-(2 ^ 64) < j∧j < 2 ^ 64))) (.ok (.int (i*j)))
 | .str x, .int n=>R.bt (decide (-(2 ^ 63)≤n∧n < 2 ^ 63∧x.length*n.toNat≤sizeLine)) (.ok (.str (Txt.mul x n)))
 | _,_=> .no
theorem rz:iT X (binaryOp .Mult) kJ:=by
 intro pins s σ H B da db d x y v u I hb rx ry ra rb hg
 unfold kJ at hg
 split at hg
 ·obtain⟨h1,h2⟩:=R.aS hg
  cases h2
  have h1:=of_decide_eq_true h1
  exact GF pins s σ H x y v u _ I rx ry ⟨_,_,Rep.int.mp ra,Rep.int.mp rb,h1,aK.refl H,Rep.int.mpr rfl⟩
 ·obtain⟨h1,h2⟩:=R.aS hg
  cases h2
  have h1:=of_decide_eq_true h1
  exact Cr pins s σ H x y v u _ I rx ry ⟨_,_,Rep.str.mp ra,Rep.int.mp rb,mulOk_of h1.1 h1.2.1 h1.2.2,aK.refl H,Rep.str.mpr rfl⟩
 ·cases hg
mutual
noncomputable def toPy:D→PyData
 | .bX=> .none
 | .bl b=> .bool b
 | .int i=> .int i
 | .str x=> .str x
 | .lst ds=> .list (jJ ds)
 | .tup ds=> .tuple (jJ ds)
 | .dct _ _=> .dict []
noncomputable def jJ:List D→List PyData
 | []=>[]
 | d ::ds=>toPy d ::jJ ds
end
mutual
noncomputable def eL:D→Bool
 | .dct _ _=>false
 | .lst ds=>iG ds
 | .tup ds=>iG ds
 | _=>true
noncomputable def iG:List D→Bool
 | []=>true
 | d ::ds=>eL d && iG ds
end
mutual
theorem Rep.reads{pins:List (Addr × Obj)}{σ:St}{H:Hp}{s:Shared}{B:List Addr}(I:Inv X pins σ H s):∀{d:D} {v:V} {u:Value},eL d=true→Rep X.K B H d v→RelV v u→∃as,Reads s.heap u (toPy d) as
 | .bX,v,u,_,r,q=>by rw[Rep.bX.mp r] at q;cases q;unfold toPy;exact⟨_, .none⟩
 | .bl b,v,u,_,r,q=>by rw[Rep.bl.mp r] at q;cases q;unfold toPy;exact⟨_, .bool b⟩
 | .int i,v,u,_,r,q=>by rw[Rep.int.mp r] at q;obtain⟨t,rfl⟩:=q;unfold toPy;exact⟨_, .int i t⟩
 | .str x,v,u,_,r,q=>by rw[Rep.str.mp r] at q;obtain⟨t,rfl⟩:=q;unfold toPy;exact⟨_, .str x t⟩
 | .lst ds,v,u,hp,r,q=>by
   obtain⟨a,xs,rfl,l,rs⟩:=Rep.lst.mp r
   cases q
   obtain⟨its,rv,⟨o,n,e,hc,hd,he⟩,_⟩:=I.list l.sq
   obtain⟨as,ra⟩:=ay.reads I (by unfold eL at hp;exact hp) rs rv
   unfold toPy
   exact⟨_, .list e hc he (by simpa using ra)⟩
 | .tup ds,v,u,hp,r,q=>by
   obtain⟨a,xs,rfl,l,rs⟩:=Rep.tup.mp r
   cases q
   obtain⟨its,rv,⟨o,e,hc,n,hd⟩,_⟩:=I.tuple l.sq
   obtain⟨as,ra⟩:=ay.reads I (by unfold eL at hp;exact hp) rs rv
   unfold toPy
   exact⟨_, .tuple e hc hd (by simpa using ra)⟩
 | .dct _ _,v,u,hp,r,q=>by unfold eL at hp;cases hp
theorem ay.reads{pins:List (Addr × Obj)}{σ:St}{H:Hp}{s:Shared}{B:List Addr}(I:Inv X pins σ H s):∀{ds:List D} {vs:List V} {us:List Value},iG ds=true→ay X.K B H ds vs→Vals vs us→∃as,ReadsAll s.heap us (jJ ds) as
 | [],vs,us,_,r,q=>by unfold ay at r;subst r;cases q;unfold jJ;exact⟨_, .nil⟩
 | d ::ds,vs,us,hp,r,q=>by
   obtain⟨x,xs,rfl,r1,r2⟩:=r.bA
   cases q with
   | cons q1 q2=>
     unfold iG at hp
     obtain⟨h1,h2⟩:=Bool.and_eq_true_iff.mp hp
     obtain⟨as,a1⟩:=Rep.reads I h1 r1 q1
     obtain⟨bs,a2⟩:=ay.reads I h2 r2 q2
     unfold jJ
     exact⟨_, .cons a1 a2⟩
end
noncomputable def BR:D→D→R Bool
 | .int i, .int j=> .ok (decide (i=j))
 | .str x, .str y=> .ok (decide (x=y))
 | .bl a, .bl b=> .ok (decide (a=b))
 | d,e=>R.bt (eL d && eL e && SeqAt.shaped (toPy d) && SeqAt.shaped (toPy e)) (.ok (PyData.eqv (toPy d) (toPy e)))
noncomputable def mB(d e:D):R D:=(BR d e).bind fun b=> .ok (.bl b)
noncomputable def vd(d e:D):R D:=(BR d e).bind fun b=> .ok (.bl (!b))
theorem oV(hu:X.A.units+64 < cLine):iT X (compareOp .Eq) mB:=by
 intro pins s σ H B da db d x y v u I hb rx ry ra rb hg
 obtain⟨b,h1,h2⟩:=R.ab hg
 cases h2
 unfold BR at h1
 split at h1
 ·cases h1
  rename_i i j
  have:=Bc pins s σ H x y v u (fun z H'=>aK H H'∧Rep X.K B H' (.bl (decide (i=j))) z) I rx ry
  rw[Rep.int.mp ra,Rep.int.mp rb] at this
  refine this ⟨rfl,aK.refl H,Rep.bl.mpr ?_⟩
  simp [V.int.injEq]
 ·cases h1
  rename_i i j
  have:=Bc pins s σ H x y v u (fun z H'=>aK H H'∧Rep X.K B H' (.bl (decide (i=j))) z) I rx ry
  rw[Rep.str.mp ra,Rep.str.mp rb] at this
  refine this ⟨rfl,aK.refl H,Rep.bl.mpr ?_⟩
  simp [V.str.injEq]
 ·cases h1
  rename_i i j
  have:=Bc pins s σ H x y v u (fun z H'=>aK H H'∧Rep X.K B H' (.bl (decide (i=j))) z) I rx ry
  rw[Rep.bl.mp ra,Rep.bl.mp rb] at this
  refine this ⟨rfl,aK.refl H,Rep.bl.mpr ?_⟩
  simp [V.bl.injEq]
 ·obtain⟨h3,h4⟩:=R.aS h1
  cases h4
  simp only[Bool.and_eq_true] at h3
  obtain⟨⟨⟨p1,p2⟩,s1⟩,s2⟩:=h3
  obtain⟨as,r1⟩:=ra.reads I p1 rx
  obtain⟨bs,r2⟩:=rb.reads I p2 ry
  exact eq_dataH r1 r2 s1 s2 hu ⟨.bl _,H,I,rfl,aK.refl H,Rep.bl.mpr rfl⟩
theorem F6(hu:X.A.units+64 < cLine):iT X (compareOp .NotEq) vd:=by
 intro pins s σ H B da db d x y v u I hb rx ry ra rb hg
 obtain⟨b,h1,h2⟩:=R.ab hg
 cases h2
 unfold BR at h1
 split at h1
 ·cases h1
  rename_i i j
  have:=Ak pins s σ H x y v u (fun z H'=>aK H H'∧Rep X.K B H' (.bl (!decide (i=j))) z) I rx ry
  rw[Rep.int.mp ra,Rep.int.mp rb] at this
  refine this ⟨rfl,aK.refl H,Rep.bl.mpr ?_⟩
  simp [V.int.injEq]
 ·cases h1
  rename_i i j
  have:=Ak pins s σ H x y v u (fun z H'=>aK H H'∧Rep X.K B H' (.bl (!decide (i=j))) z) I rx ry
  rw[Rep.str.mp ra,Rep.str.mp rb] at this
  refine this ⟨rfl,aK.refl H,Rep.bl.mpr ?_⟩
  simp [V.str.injEq]
 ·cases h1
  rename_i i j
  have:=Ak pins s σ H x y v u (fun z H'=>aK H H'∧Rep X.K B H' (.bl (!decide (i=j))) z) I rx ry
  rw[Rep.bl.mp ra,Rep.bl.mp rb] at this
  refine this ⟨rfl,aK.refl H,Rep.bl.mpr ?_⟩
  simp [V.bl.injEq]
 ·obtain⟨h3,h4⟩:=R.aS h1
  cases h4
  simp only[Bool.and_eq_true] at h3
  obtain⟨⟨⟨p1,p2⟩,s1⟩,s2⟩:=h3
  obtain⟨as,r1⟩:=ra.reads I p1 rx
  obtain⟨bs,r2⟩:=rb.reads I p2 ry
  exact ne_dataH r1 r2 s1 s2 hu ⟨.bl _,H,I,rfl,aK.refl H,Rep.bl.mpr rfl⟩
noncomputable def strs?:List D→Option (List Str)
 | []=>some []
 | .str x ::ds=>(strs? ds).map (x ::·)
 | _ ::_=>none
theorem iX{K:PySem.W.Frag}{B:List Addr}{H:Hp}:∀{ds:List D} {xs:List V} {ss:List Str},ay K B H ds xs→strs? ds=some ss→xs=ss.map V.str
 | [],xs,ss,r,h=>by unfold ay at r;subst r;cases h;rfl
 | d ::ds,xs,ss,r,h=>by
   obtain⟨x,r',rfl,r1,r2⟩:=r.bA
   cases d with
   | str z=>
     unfold strs? at h
     cases e:strs? ds with
     | none=>rw [e] at h;cases h
     | some tt=>
       rw[e] at h
       cases h
       rw[Rep.str.mp r1,iX r2 e]
       rfl
   | _=>cases h
noncomputable def ints?:List D→Option (List Int)
 | []=>some []
 | .int x ::ds=>(ints? ds).map (x ::·)
 | _ ::_=>none
theorem gJ{K:PySem.W.Frag}{B:List Addr}{H:Hp}:∀{ds:List D} {xs:List V} {ss:List Int},ay K B H ds xs→ints? ds=some ss→xs=ss.map V.int
 | [],xs,ss,r,h=>by unfold ay at r;subst r;cases h;rfl
 | d ::ds,xs,ss,r,h=>by
   obtain⟨x,r',rfl,r1,r2⟩:=r.bA
   cases d with
   | int z=>
     unfold ints? at h
     cases e:ints? ds with
     | none=>rw [e] at h;cases h
     | some tt=>
       rw[e] at h
       cases h
       rw[Rep.int.mp r1,gJ r2 e]
       rfl
   | _=>cases h
noncomputable def inD(d e:D):R Bool:=match d,e with
 | .str x, .lst ds=>(match strs? ds with | some ss=> .ok (ss.contains x) | none=> .no)
 | .str x, .tup ds=>(match strs? ds with | some ss=> .ok (ss.contains x) | none=> .no)
 | .str x, .str y=> .ok (!(Builtin.Str.occurrences y x 0 y.length 1).isEmpty)
 | .int x, .lst ds=>(match ints? ds with | some ss=> .ok (ss.contains x) | none=> .no)
 | .int x, .tup ds=>(match ints? ds with | some ss=> .ok (ss.contains x) | none=> .no)
 | _,_=> .no
noncomputable def tV(d e:D):R D:=(inD d e).bind fun b=> .ok (.bl b)
noncomputable def gQ(d e:D):R D:=(inD d e).bind fun b=> .ok (.bl (!b))
theorem pf(x:Str):∀ss:List Str,Eh (.str x) (ss.map V.str)=ss.contains x
 | []=>rfl
 | y ::ss=>by
   unfold Eh
   rw[List.map_cons,List.any_cons]
   have ih:=pf x ss
   unfold Eh at ih
   rw[ih]
   show(y==x || ss.contains x)=_
   rw[List.contains_cons]
   congr 1
   exact Bool.eq_iff_iff.mpr ⟨fun h=>by simpa using(beq_iff_eq.mp h).symm,fun h=>by simpa using(beq_iff_eq.mp h).symm⟩
theorem pL(x:Int):∀ss:List Int,Eh (.int x) (ss.map V.int)=ss.contains x
 | []=>rfl
 | y ::ss=>by
   unfold Eh
   rw[List.map_cons,List.any_cons]
   have ih:=pL x ss
   unfold Eh at ih
   rw[ih]
   show(y==x || ss.contains x)=_
   rw[List.contains_cons]
   congr 1
   exact Bool.eq_iff_iff.mpr ⟨fun h=>by simpa using(beq_iff_eq.mp h).symm,fun h=>by simpa using(beq_iff_eq.mp h).symm⟩
theorem rj(ss:List Int):(ss.map V.int).all jK=true:=by
 rw[List.all_map]
 simp [List.all_eq_true,jK]
theorem qI(ss:List Str):(ss.map V.str).all jK=true:=by
 rw[List.all_map]
 simp [List.all_eq_true,jK]
theorem Be{neg:Bool}{op:CmpOp}{g:D→D→R D}(h1:jG X (compareOp op) (Jo X.K neg))(h2:jG X (compareOp op) (fun x y H Q=>∃i j,x= .str i∧y= .str j∧Q (.bl (if neg then !(!(Builtin.Str.occurrences j i 0 j.length 1).isEmpty) else(!(Builtin.Str.occurrences j i 0 j.length 1).isEmpty))) H))
 (hg:∀d e r,g d e= .ok r→∃b,inD d e= .ok b∧r= .bl (if neg then !b else b)):iT X (compareOp op) g:=by
 intro pins s σ H B da db d x y v u I hb rx ry ra rb hg'
 obtain⟨b,hi,rfl⟩:=hg da db d hg'
 unfold inD at hi
 split at hi
 ·rename_i z ds
  split at hi
  ·rename_i ss e
   cases hi
   obtain⟨a,xs,rfl,l,rs⟩:=Rep.lst.mp rb
   refine h1 pins s σ H x _ v u _ I rx ry ⟨a,xs,rfl, .inl l.sq,by rw[Rep.str.mp ra];rfl,by rw[iX rs e];exact qI _,aK.refl H,Rep.bl.mpr ?_⟩
   rw[iX rs e,Rep.str.mp ra,pf]
  ·cases hi
 ·rename_i z ds
  split at hi
  ·rename_i ss e
   cases hi
   obtain⟨a,xs,rfl,l,rs⟩:=Rep.tup.mp rb
   refine h1 pins s σ H x _ v u _ I rx ry ⟨a,xs,rfl, .inr l.sq,by rw[Rep.str.mp ra];rfl,by rw[iX rs e];exact qI _,aK.refl H,Rep.bl.mpr ?_⟩
   rw[iX rs e,Rep.str.mp ra,pf]
  ·cases hi
 ·cases hi
  exact h2 pins s σ H x y v u _ I rx ry ⟨_,_,Rep.str.mp ra,Rep.str.mp rb,aK.refl H,Rep.bl.mpr rfl⟩
 ·rename_i z ds
  split at hi
  ·rename_i ss e
   cases hi
   obtain⟨a,xs,rfl,l,rs⟩:=Rep.lst.mp rb
   refine h1 pins s σ H x _ v u _ I rx ry ⟨a,xs,rfl, .inl l.sq,by rw[Rep.int.mp ra];rfl,by rw[gJ rs e];exact rj _,aK.refl H,Rep.bl.mpr ?_⟩
   rw[gJ rs e,Rep.int.mp ra,pL]
  ·cases hi
 ·rename_i z ds
  split at hi
  ·rename_i ss e
   cases hi
   obtain⟨a,xs,rfl,l,rs⟩:=Rep.tup.mp rb
   refine h1 pins s σ H x _ v u _ I rx ry ⟨a,xs,rfl, .inr l.sq,by rw[Rep.int.mp ra];rfl,by rw[gJ rs e];exact rj _,aK.refl H,Rep.bl.mpr ?_⟩
   rw[gJ rs e,Rep.int.mp ra,pL]
  ·cases hi
 ·cases hi
theorem GD:iT X (compareOp .In) tV:=Be (neg:=false) yK yu fun d e r h=>by
 obtain⟨b,h1,h2⟩:=R.ab h
 cases h2
 exact⟨b,h1,rfl⟩
theorem Cy:iT X (compareOp .NotIn) gQ:=Be (neg:=true) sZ tG fun d e r h=>by
 obtain⟨b,h1,h2⟩:=R.ab h
 cases h2
 exact⟨b,h1,rfl⟩
noncomputable def cR(d e:D):R D:=match d,e with
 | .lst ds, .int i=>(match nR ds i with | some x=> .ok x | none=> .no)
 | .tup ds, .int i=>(match nR ds i with | some x=> .ok x | none=> .no)
 | .str x, .int i=>R.bt (decide (x.length≤sizeLine)) (match nR x.cps.toList i with | some c=> .ok (.str ⟨#[c]⟩) | none=> .no)
 | _,_=> .no
theorem ma{K:PySem.W.Frag}{B:List Addr}{H:Hp}{ds:List D}{xs:List V}{i:Int}{d:D}(r:ay K B H ds xs)(h:nR ds i=some d):∃x,nR xs i=some x∧Rep K B H d x:=by
 unfold nR at h ⊢
 rw[←r.length]
 cases e:qj ds.length i with
 | none=>rw [e] at h;cases h
 | some j=>
   rw[e] at h
   exact r.get h
theorem GU{a b:Expr}{fa fb:FD}{pos:Pos}(ha:PD X a fa)(hb:PD X b fb)(hs:ox b):PD X (.Subscript a b pos) (e2 cR fa fb):=by
 refine(Eb (r:=Jf X.K) A2 ha hb hs).imp fun σ H Q ⟨Z,B,δ,d,E,hf,q⟩=>?_
 obtain⟨d1,h1,h2⟩:=R.ab hf
 obtain⟨d2,h3,h4⟩:=R.ab h2
 refine⟨Z,B,δ,d1,E,h1,fun v1 H1 s1 r1=>⟨Z,B,δ,d2,E.same s1,h3,fun v2 H2 s2 r2=>?_⟩⟩
 have r1':=r1.same s2
 unfold cR at h4
 split at h4
 ·split at h4
  ·rename_i e
   cases h4
   obtain⟨p,xs,rfl,l,rs⟩:=Rep.lst.mp r1'
   obtain⟨y,e1,e2⟩:=ma rs e
   exact .inl ⟨p,xs,_,y,rfl,Rep.int.mp r2,l.sq,e1,q y H2 (s1.trans s2) e2⟩
  ·cases h4
 ·split at h4
  ·rename_i e
   cases h4
   obtain⟨p,xs,rfl,l,rs⟩:=Rep.tup.mp r1'
   obtain⟨y,e1,e2⟩:=ma rs e
   exact .inr (.inl ⟨p,xs,_,y,rfl,Rep.int.mp r2,l.sq,e1,q y H2 (s1.trans s2) e2⟩)
  ·cases h4
 ·obtain⟨hl,h5⟩:=R.aS h4
  split at h5
  ·rename_i e
   cases h5
   exact .inr (.inr ⟨_,_,_,Rep.str.mp r1',Rep.int.mp r2,of_decide_eq_true hl,e,q _ H2 (s1.trans s2) (Rep.str.mpr rfl)⟩)
  ·cases h5
 ·cases h4
noncomputable abbrev FO:=aq→R (Option Int)
noncomputable def KN(K:PySem.W.Frag)(f:FO):TO:=fun σ H Q=>∃Z B δ o,dH K Z B H σ δ∧f δ= .ok o∧∀H',aK H H'→Q o H'
theorem PO.imp{X:Cx}{e:Option Expr}{t t':TO}(h:PO X e t)(w:∀σ H Q,t' σ H Q→t σ H Q):PO X e t':=fun pins s σ H Q I hq=>h pins s σ H Q I (w σ H Q hq)
noncomputable abbrev PP(X:Cx)(e:Option Expr)(f:FO):Prop:=PO X e (KN X.K f)
noncomputable def iU:FO:=fun _=> .ok none
noncomputable def g9(f:FD):FO:=fun δ=>(f δ).bind fun d=>match d with | .int i=> .ok (some i) | _=> .no
theorem CG:PP X none iU:=ye.imp fun σ H Q ⟨Z,B,δ,o,E,hf,q⟩=>by cases hf;exact q H (aK.refl H)
theorem Cq{e:Expr}{f:FD}(h:PD X e f):PP X (some e) (g9 f):=(xJ h).imp fun σ H Q ⟨Z,B,δ,o,E,hf,q⟩=>by
 obtain⟨d,h1,h2⟩:=R.ab hf
 cases d with
 | int i=>cases h2;exact⟨Z,B,δ, .int i,E,h1,fun v H1 s1 r1=>⟨i,Rep.int.mp r1,q H1 s1⟩⟩
 | _=>cases h2
theorem wd:Et X (fun x lo hi H Q=>∃z,x= .str z∧z.length≤sizeLine∧Q (.str (Txt.slice z lo hi)) H):=by
 intro pins s σ H x v vl vu lo hi sl Q I rx hs pl pu h
 obtain⟨z,rfl,hz,q⟩:=h
 obtain⟨t,rfl⟩:=rx
 refine⟨"str",_,F.slot_str_getitem.lookup,typeIs_str _ _ _,?_⟩
 have fin:∀t' k,EP X pins σ Q (.str (Txt.slice z lo hi) t') {s with toks:=k}:=fun t' k=>⟨.str _,H,I.tok _,⟨_,rfl⟩,q⟩
 obtain⟨o,ho,hc,hd⟩:=hs
 cases pl with
 | none=>
   cases pu with
   | none=>exact wpAny_getItem_str_slice (l:=none) (u:=none) (st:=none) ⟨o,ho,hc,hd⟩ rfl (post_val_or_str ⟨Nat.le_trans (Txt.slice_le z _ _) hz,fin⟩)
   | int j u=>exact wpAny_getItem_str_slice (l:=none) (u:=some (j,u)) (st:=none) ⟨o,ho,hc,hd⟩ rfl (post_val_or_str ⟨Nat.le_trans (Txt.slice_le z _ _) hz,fin⟩)
 | int i t1=>
   cases pu with
   | none=>exact wpAny_getItem_str_slice (l:=some (i,t1)) (u:=none) (st:=none) ⟨o,ho,hc,hd⟩ rfl (post_val_or_str ⟨Nat.le_trans (Txt.slice_le z _ _) hz,fin⟩)
   | int j u=>exact wpAny_getItem_str_slice (l:=some (i,t1)) (u:=some (j,u)) (st:=none) ⟨o,ho,hc,hd⟩ rfl (post_val_or_str ⟨Nat.le_trans (Txt.slice_le z _ _) hz,fin⟩)
noncomputable def cutD{α:Type}(xs:List α)(lo hi:Option Int):List α:=(xs.drop (HT.oh xs.length 0 lo)).take (HT.oh xs.length xs.length hi - HT.oh xs.length 0 lo)
noncomputable def DZ(d:D)(lo hi:Option Int):R D:=match d with
 | .str x=>R.bt (decide (x.length≤sizeLine)) (.ok (.str (Txt.slice x lo hi)))
 | .lst ds=> .ok (.lst (cutD ds lo hi))
 | _=> .no
theorem t6{K:PySem.W.Frag}{B:List Addr}{H:Hp}{ds:List D}{xs:List V}(r:ay K B H ds xs)(lo hi:Option Int):ay K B H (cutD ds lo hi) (vt xs lo hi):=by
 unfold cutD vt
 rw[←r.length]
 exact(r.drop _).take _
noncomputable def w9(f:FD)(fl fh:FO):FD:=fun δ=>(f δ).bind fun d=>(fl δ).bind fun lo=>(fh δ).bind fun hi=>DZ d lo hi
theorem Ib{e:Expr}{lo hi:Option Expr}{f:FD}{fl fh:FO}{p2 pos:Pos}(he:PD X e f)(hl:PP X lo fl)(hh:PP X hi fh):PD X (.Subscript e (.Slice lo hi none p2) pos) (w9 f fl fh):=by
 refine(oS (wd.or sM) he hl hh).imp fun σ H Q ⟨Z,B,δ,d,E,hf,q⟩=>?_
 obtain⟨d1,h1,h2⟩:=R.ab hf
 obtain⟨l,h3,h4⟩:=R.ab h2
 obtain⟨h,h5,h6⟩:=R.ab h4
 refine⟨Z,B,δ,d1,E,h1,fun v1 H1 s1 r1=>⟨Z,B,δ,l,E.same s1,h3,fun H2 s2=>⟨Z,B,δ,h,(E.same s1).same s2,h5,fun H3 s3=>?_⟩⟩⟩
 have sA:aK H H3:=s1.trans (s2.trans s3)
 have r1':=r1.same (s2.trans s3)
 unfold DZ at h6
 split at h6
 ·obtain⟨hz,h7⟩:=R.aS h6
  cases h7
  exact .inl ⟨_,Rep.str.mp r1',of_decide_eq_true hz,q _ H3 sA (Rep.str.mpr rfl)⟩
 ·cases h6
  obtain⟨a,xs,rfl,ls,rs⟩:=Rep.lst.mp r1'
  refine .inr ⟨a,xs,rfl,ls.sq,fun p hp=>q _ _ (sA.trans (aD hp)) (Rep.lst.mpr ⟨p,_,rfl, .lG aN fun ha=>?_,(t6 rs l h).same (aD hp)⟩)⟩
  obtain⟨o,ho⟩:=(E.same sA).bs p ha
  rw[hp] at ho;cases ho
 ·cases h6
end
end L2
end
section
set_option maxRecDepth 100000
set_option maxHeartbeats 4000000
namespace L2
open PySem PySem.Spec PyProof.Rows
section
variable {X:Cx}
theorem ay.one{K:PySem.W.Frag}{B:List Addr}{H:Hp}{d:D}{xs:List V}(h:ay K B H [d] xs):∃x,xs=[x]∧Rep K B H d x:=by
 obtain⟨x,r,rfl,h1,h2⟩:=h.bA
 unfold ay at h2
 subst h2
 exact⟨x,rfl,h1⟩
theorem ay.two{K:PySem.W.Frag}{B:List Addr}{H:Hp}{d e:D}{xs:List V}(h:ay K B H [d,e] xs):∃x y,xs=[x,y]∧Rep K B H d x∧Rep K B H e y:=by
 obtain⟨x,r,rfl,h1,h2⟩:=h.bA
 obtain⟨y,rfl,h3⟩:=h2.one
 exact⟨x,y,rfl,h1,h3⟩
noncomputable def eu:List D→R D
 | [.str x]=>R.bt (decide (x.length≤sizeLine)) (.ok (.int x.length))
 | [.lst ds]=> .ok (.int ds.length)
 | [.tup ds]=> .ok (.int ds.length)
 | _=> .no
theorem fv:cS X (.builtin "len") eu:=cS.of Bp fun B H ds d xs Q _ rs hg q=>by
 unfold eu at hg
 split at hg
 ·obtain⟨h1,h2⟩:=R.aS hg
  cases h2
  obtain⟨x,rfl,r⟩:=rs.one
  exact⟨x,_,rfl,by rw[Rep.str.mp r];exact⟨of_decide_eq_true h1,rfl⟩,q _ H (aK.refl H) (Rep.int.mpr rfl)⟩
 ·cases hg
  obtain⟨x,rfl,r⟩:=rs.one
  obtain⟨a,ys,rfl,l,r⟩:=Rep.lst.mp r
  exact⟨_,_,rfl, .inl ⟨ys,l.sq,rfl⟩,q _ H (aK.refl H) (Rep.int.mpr (by rw[r.length]))⟩
 ·cases hg
  obtain⟨x,rfl,r⟩:=rs.one
  obtain⟨a,ys,rfl,l,r⟩:=Rep.tup.mp r
  exact⟨_,_,rfl, .inr ⟨ys,l.sq,rfl⟩,q _ H (aK.refl H) (Rep.int.mpr (by rw[r.length]))⟩
 ·cases hg
noncomputable def cInt:List D→R D
 | [.int i]=> .ok (.int i)
 | [.bl b]=> .ok (.int (if b then 1 else 0))
 | _=> .no
theorem HZ:cS X (.type "int") cInt:=cS.of yr fun B H ds d xs Q _ rs hg q=>by
 unfold cInt at hg
 split at hg
 ·cases hg
  obtain⟨x,rfl,r⟩:=rs.one
  exact .inl ⟨_,by rw[Rep.int.mp r],q _ H (aK.refl H) (Rep.int.mpr rfl)⟩
 ·cases hg
  obtain⟨x,rfl,r⟩:=rs.one
  exact .inr ⟨_,by rw[Rep.bl.mp r],q _ H (aK.refl H) (Rep.int.mpr rfl)⟩
 ·cases hg
noncomputable def cStr:List D→R D
 | [.int i]=>R.bt (decide (i.natAbs.log2 < 1920)) (.ok (.str (toString i)))
 | _=> .no
noncomputable def qG:List D→R D
 | [.int i, .int j]=> .ok (.int (if j < i then j else i))
 | _=> .no
theorem Ie(hc:X.calm=true):cS X (.builtin "min") qG:=cS.of (yT hc) fun B H ds d xs Q _ rs hg q=>by
 unfold qG at hg
 split at hg
 ·cases hg
  obtain⟨x,y,rfl,r1,r2⟩:=rs.two
  exact⟨_,_,by rw[Rep.int.mp r1,Rep.int.mp r2],q _ H (aK.refl H) (Rep.int.mpr rfl)⟩
 ·cases hg
noncomputable def Js:List D→R D
 | [.int i, .int j]=> .ok (.int (if j > i then j else i))
 | _=> .no
noncomputable def gm:List D→R D
 | [.lst ds]=> .ok (.tup ds)
 | [.tup ds]=> .ok (.tup ds)
 | _=> .no
theorem xk:cS X (.type "tuple") gm:=cS.of qy fun B H ds d xs Q hb rs hg q=>by
 unfold gm at hg
 split at hg
 ·cases hg
  obtain⟨x,rfl,r⟩:=rs.one
  obtain⟨a,ys,rfl,l,r⟩:=Rep.lst.mp r
  refine⟨a,ys,rfl, .inl ⟨l.sq,fun p hp=>q _ _ (aD hp) (Rep.tup.mpr ⟨p,ys,rfl, .inl ⟨fun ha=>?_, .inl aN⟩,r.same (aD hp)⟩)⟩⟩
  obtain⟨o,ho⟩:=hb p ha
  rw[hp] at ho;cases ho
 ·cases hg
  obtain⟨x,rfl,r⟩:=rs.one
  have r0:=r
  obtain⟨a,ys,rfl,l,r⟩:=Rep.tup.mp r
  exact⟨a,ys,rfl, .inr ⟨l.sq,q _ H (aK.refl H) r0⟩⟩
 ·cases hg
noncomputable def kU:List D→R D
 | [.lst ds]=> .ok (.lst ds)
 | [.tup ds]=> .ok (.lst ds)
 | _=> .no
theorem Fy:cS X (.type "list") kU:=cS.of sN fun B H ds d xs Q hb rs hg q=>by
 unfold kU at hg
 split at hg
 ·cases hg
  obtain⟨x,rfl,r⟩:=rs.one
  obtain⟨a,ys,rfl,l,r⟩:=Rep.lst.mp r
  refine⟨a,ys,rfl, .inl l.sq,fun p hp=>q _ _ (aD hp) (Rep.lst.mpr ⟨p,ys,rfl, .lG aN fun ha=>?_,r.same (aD hp)⟩)⟩
  obtain⟨o,ho⟩:=hb p ha
  rw[hp] at ho;cases ho
 ·cases hg
  obtain⟨x,rfl,r⟩:=rs.one
  obtain⟨a,ys,rfl,l,r⟩:=Rep.tup.mp r
  refine⟨a,ys,rfl, .inr l.sq,fun p hp=>q _ _ (aD hp) (Rep.lst.mpr ⟨p,ys,rfl, .lG aN fun ha=>?_,r.same (aD hp)⟩)⟩
  obtain⟨o,ho⟩:=hb p ha
  rw[hp] at ho;cases ho
 ·cases hg
noncomputable def cAbs:List D→R D
 | [.int i]=> .ok (.int (if i < 0 then -i else i))
 | _=> .no
noncomputable def Jq:List D→R D
 | [.lst ds]=>(match ints? ds with | some ns=> .ok (.int ns.sum) | none=> .no)
 | _=> .no
theorem k5:∀{ns:List Int} {us:List Value},Vals (ns.map V.int) us→∃l:List (Int × Tok),us=l.map (fun p=>Value.int p.1 p.2)∧l.map (·.1)=ns
 | [],_, .nil=>⟨[],rfl,rfl⟩
 | n ::ns,_, .cons r t=>by
   obtain⟨l,rfl,e⟩:=k5 t
   obtain⟨tk,rfl⟩:=r
   exact⟨(n,tk) ::l,rfl,by rw[List.map_cons,e]⟩
noncomputable def tyName:D→String
 | .bX=>"NoneType" | .bl _=>"bool" | .int _=>"int" | .str _=>"str" | .lst _=>"list" | .tup _=>"tuple" | .dct _ _=>"dict"
noncomputable def w_(T:String)(f:FD):FD:=fun δ=>(f δ).bind fun d=>R.bt (tyName d==T && d.atom) (.ok (.bl true))
noncomputable def Mc(X:Cx)(id:String)(g:D→List D→R D):Prop:=
 ∀(pins:List (Addr × Obj)) (s:Shared) (σ:St) (H:Hp) (B:List Addr) (da d:D) (ds:List D) (x:V) (xs:List V) (v:Value) (us:List Value),Inv X pins σ H s→(∀a∈B,∃o,H a=some o)→RelV x v→Vals xs us→Rep X.K B H da x→ay X.K B H ds xs→g da ds= .ok d→
  wpAny (model X.prog X.w) X.A (call (.builtin id) (v ::us)) (EP X pins σ fun z H'=>aK H H'∧Rep X.K B H' d z) X.xe s
noncomputable def F8(T:String)(g:D→List D→R D)(f:FD)(fs:aq→R (List D)):FD:=fun δ=>(f δ).bind fun d=>R.bt (tyName d==T && (d.atom || T=="list")) ((fs δ).bind fun ds=>g d ds)
noncomputable def JZ(d:D)(ds:List D):R D:=match d,ds with
 | .str sep,[.lst es]=>(match strs? es with | some ss=>R.bt (JoinOk sep ss) (.ok (.str (Str.join sep ss))) | none=> .no)
 | _,_=> .no
noncomputable abbrev PJ(X:Cx)(es:List Expr)(f:aq→R (List Str)):Prop:=
 ∀(pins:List (Addr × Obj)) (s:Shared) (σ:St) (H:Hp) (Z B:List Addr) (δ:aq) (acc:Str) (ss:List Str) (Q:VK),Inv X pins σ H s→dH X.K Z B H σ δ→f δ= .ok ss→(ss.foldl (·++·) acc).length≤sizeLine→(∀H',aK H H'→Q (.str (ss.foldl (·++·) acc)) H')→
  wpAny (model X.prog X.w) X.A (joinParts acc (evalEach es X.env)) (EP X pins σ Q) X.xe s
noncomputable def we:aq→R (List Str):=fun _=> .ok []
noncomputable def pz(f:FD)(g:aq→R (List Str)):aq→R (List Str):=fun δ=>(f δ).bind fun d=>match d with | .str x=>(g δ).bind fun ss=> .ok (x ::ss) | _=> .no
noncomputable def js(g:aq→R (List Str)):FD:=fun δ=>(g δ).bind fun ss=>R.bt (decide ((ss.foldl (·++·) Str.empty).length≤sizeLine)) (.ok (.str (ss.foldl (·++·) Str.empty)))
noncomputable def uG:D→R D
 | .str x=>R.bt (decide (x.length≤sizeLine)) (.ok (.str x))
 | .int i=>R.bt (decide (i.natAbs.log2 < 1920)) (.ok (.str (toString i)))
 | _=> .no
noncomputable def vO(f:FD):FD:=fun δ=>(f δ).bind uG
noncomputable def Hb:List (D × D)→Str→R (Option D)
 | [],_=> .ok none
 | (.str y,d) ::r,x=>(Hb r x).bind fun o=> .ok (match o with | some e=>some e | none=>if y=x then some d else none)
 | _ ::_,_=> .no
noncomputable def G6(x:Str):List D:=x.cps.toList.map fun c=> .str ⟨#[c]⟩
noncomputable def LY(x:Str):It:=⟨fun i _=>i < x.cps.size,fun i H v H'=>H'=H∧∃c,x.cps[i]? =some c∧v= .str ⟨#[c]⟩,fun i _=>x.cps.size≤i⟩
noncomputable def Kx(f:FD):aq→R (List D):=fun δ=>(f δ).bind fun d=>match d with | .str x=> .ok (G6 x) | _=> .no
noncomputable def Lx(K:PySem.W.Frag)(a:Addr):It:=
 ⟨fun i H=>∃xs x,lR K H a xs∧xs[i]? =some x,fun i H v H'=>∃p x,H p=none∧v= .ref p∧(∀xs,lR K H a xs→xs[i]? =some x)∧H'=upd H p (.tup [.int i,x]),fun i H=>∃xs,lR K H a xs∧xs.length≤i⟩
theorem rk{P:Program}{w:World}{K:PySem.W.Frag}{elts:List Expr}{k:Nat}{pos:Pos}(a e it:Addr)(hei:e≠it):Turn P w K (.Tuple elts k pos) (Lx K a) [e,it] e (fun i h=>(∃old,IsEnum h e it ((i:Nat):Int) old)∧h.IsListIter it a i) where
 mem:=by simp
 obj:=fun i h st b hb=>by
  obtain⟨⟨old,he⟩,o,ho,c,d⟩:=st
  rcases List.mem_cons.mp hb with rfl | hb
  ·exact⟨_,he,fun v z=>by cases z⟩
  ·have e:b=it:=by simpa using hb
   subst e
   exact⟨o,ho,fun v z=>by rw[d] at z;cases z⟩
 keep:=fun i h h' st k=>by
  obtain⟨⟨old,he⟩,hi⟩:=st
  exact⟨⟨old,k e (by simp) _ he⟩,hi.at fun o x=>k it (by simp) o x⟩
 item:=by
  intro X hP hw hK hc i pins s σ H E I hf st hg
  subst hP hw hK
  obtain⟨xs,x,hq,hx⟩:=hg
  obtain⟨its,rv,p,hz⟩:=I.list hq
  obtain⟨u,hu,ru⟩:=rv.get hx
  obtain⟨⟨old,he⟩,hit⟩:=st
  obtain⟨f0,f1,f2,f3,f4,f5⟩:=hf e (by simp)
  obtain⟨g0,g1,g2,g3,g4,g5⟩:=hf it (by simp)
  refine wpAny_pyNext_enum_item he hit p.isList (x:=u) (by simpa using hu) hei fun h₁ heo hit₁ ht₁ hz₁ hk₁=>⟨_,rfl,?_⟩
  refine wpAny_letOwnedTupleGo_enum heo fun h₂ he₂ hs₂=>?_
  replace hs₂:Heap.SameBut e h₁ h₂:=hs₂
  have hel:e < s.heap.objs.size:=Heap.lt_size he
  have ht₂:h₂.get? s.heap.objs.size=some {cls:= .type "tuple",data:= .seq #[.int i s.toks,u]}:=(hs₂.2 _ (Nat.ne_of_gt hel)).trans ht₁
  have kk:∀b o,b≠e→b≠it→s.heap.get? b=some o→h₂.get? b=some o:=fun b o h1 h2 q=>(hs₂.2 b h1).trans (hk₁ b o h1 h2 q)
  have hn:H s.heap.objs.size=none:=I.fresh
  have sm:aK H (upd H s.heap.objs.size (.tup [.int i,x])):=aD hn
  have nit:∀b o,H b=some o→b≠e∧b≠it:=fun b o q=>⟨fun z=>(by rw[z,f0] at q;cases q),fun z=>(by rw[z,g0] at q;cases q)⟩
  have hok:kL X.prog X.w (upd H s.heap.objs.size (.tup [.int i,x])) h₂:=fun b ob q=>by
   by_cases hb:b=s.heap.objs.size
   ·subst hb
    rw[aN] at q
    cases q
    exact⟨by show 2≤sizeLine;decide,[.int i s.toks,u], .cons ⟨_,rfl⟩ (.cons ru .nil),⟨_,ht₂,rfl,_,rfl⟩⟩
   ·rw[aT hb] at q
    refine(I.hok b ob q).tu (fun c v hc z=>?_) (fun c z=>sm c _ z) fun c ys z=>sm c _ z
    rcases hc with rfl | hc
    ·exact kk c v (nit c _ q).1 (nit c _ q).2 z
    ·exact kk c v (nit c _ hc).1 (nit c _ hc).2 z
  have nch:∀b,b ∉ [e,it]→b≠e∧b≠it:=fun b hb=>⟨fun z=>hb (by simp [z]),fun z=>hb (by simp [z])⟩
  have I2:Inv X pins σ (upd H s.heap.objs.size (.tup [.int i,x])) {s with heap:=h₂,toks:=s.toks+1}:=by
   refine I.step (g':=s.gens) (d':=s.drawn) (ch:=[e,it]) (fun b hb=>?_) (fun b o _ _ hb q _=>kk b o (nch b hb).1 (nch b hb).2 q) (fun b o _ _ hb q _=>⟨o.slots,kk b o (nch b hb).1 (nch b hb).2 q⟩)
    (fun b o hb q n=>by rw[aT (Nat.ne_of_lt (Heap.lt_size q))];exact n) (fun b o hb q=>⟨o,kk b o (nch b hb).1 (nch b hb).2 q⟩) (fun b ys z=>sm b _ z) (fun b o u z=>sm b _ z) (fun b ps z=>⟨#[],by rw[sm b _ z];simp⟩) (fun m hm=>?_) hok I.bare
   ·rcases List.mem_cons.mp hb with rfl | hb
    ·exact⟨f3,f1,f4,f5⟩
    ·have z:b=it:=by simpa using hb
     subst z
     exact⟨g3,g1,g4,g5⟩
   ·obtain⟨o,es,ep,ho,r⟩:=hm
    exact⟨o,es,ep,kk _ o (Ne.symm f1) (Ne.symm g1) ho,r⟩
  refine⟨.ref s.heap.objs.size,_,I2,rfl,⟨s.heap.objs.size,x,hn,rfl,fun ys hy=>(by rw[I.mj hy hq];exact hx),rfl⟩,⟨⟨_,by simpa using he₂⟩,hit₁.at fun o q=>(hs₂.2 it (Ne.symm hei)).trans q⟩,fun b hb=>?_⟩
  rcases List.mem_cons.mp hb with rfl | hb
  ·rw[aT (Nat.ne_of_lt hel)];exact f0
  ·have z:b=it:=by simpa using hb
   subst z
   obtain⟨o,ho,_⟩:=hit
   rw[aT (Nat.ne_of_lt (Heap.lt_size ho))];exact g0
 done:=by
  intro X hP hw hK hc i pins s σ H E I hf st hg
  subst hP hw hK
  obtain⟨xs,hq,hx⟩:=hg
  obtain⟨its,rv,p,hz⟩:=I.list hq
  obtain⟨⟨old,he⟩,hit⟩:=st
  obtain⟨g0,g1,g2,g3,g4,g5⟩:=hf it (by simp)
  have hl:=rv.length
  exact wpAny_pyNext_enum_end (I.ok.hd hc) he hit p.isList (by simp;omega) fun h' eb=>⟨rfl,I.turned (t':=s.toks) (fun b o hb q=>eb b o hb q) g0 g1 g3 g4 g5⟩
 self:=fun A i s Q E st h=>let⟨⟨_,he⟩,_⟩:=st;wpAny_pyIter_enum he h
noncomputable def bV(ds:List D):List D:=ds.zipIdx.map fun p=> .tup [.int p.2,p.1]
noncomputable def gP(f:FD):aq→R (List D):=fun δ=>(f δ).bind fun d=>match d with | .lst ds=> .ok (bV ds) | _=> .no
theorem uQ{elts:List Expr}{k:Nat}{tpos:Pos}{a:Expr}{f:FD}{p pos:Pos}(h:PD X a f)(hg:Gl X "enumerate")(hm:X.mg "enumerate"=none)(hs:starEach [a] X.env=[(false,eval a X.env)]:=by rfl):GK X (.Tuple elts k tpos) (.Call (.Name "enumerate" p) [a] [] pos) (gP f):=by
 intro pins s σ H RR I ⟨Z,B,δ,ds,E,hf,q⟩
 obtain⟨d,h1,h2⟩:=R.ab hf
 have hA:=dz h f7 hs pos pins s σ H (fun vs H1=>aK H H1∧∃v,vs=[v]∧Rep X.K B H1 d v) I ⟨Z,B,δ,d,E,h1,fun v H1 s1 r1=>⟨s1,v,rfl,r1⟩⟩
 refine Call_ (iM I hg hm boot_enumerate (PyProof.Rows.callWith_type1 (dw hA fun us s1 ⟨vs,H1,I1,r1,ss,v,ev,rr⟩=>?_) hs rfl))
 subst ev
 obtain⟨u,rfl,ru⟩:=vals1 r1
 cases d with
 | lst es=>
   cases h2
   obtain⟨b,xs,rfl,l,rs⟩:=Rep.lst.mp rr
   cases ru
   obtain⟨its,n,rv,e1,hz⟩:=I1.D0 l
   refine call_enumerate_list (items:=its.toArray) ⟨_,e1,rfl,n,rfl⟩ fun h' he hit hsz kk=>wpAny_pyIter_enum he ?_
   have I2:Inv X pins σ H1 {s1 with heap:=h'}:=I1.kept (t':=s1.toks) kk
   refine⟨s1.heap.objs.size+1,[s1.heap.objs.size+1,s1.heap.objs.size],_,_,H1,rfl,I2,rk b (s1.heap.objs.size+1) s1.heap.objs.size (Nat.succ_ne_self _),⟨⟨_,he⟩,hit⟩,fun c hc=>?_,q _ H1 ss fun B' H' pr=>?_⟩
   ·have hle:s1.heap.objs.size≤c:=by
     rcases List.mem_cons.mp hc with z | hc
     ·rw[z];exact Nat.le_succ _
     ·have z:c=s1.heap.objs.size:=by simpa using hc
      rw[z];exact Nat.le_refl _
    exact I1.n6 hle (I1.hok.fresh hle)
   ·have l':ql X.K B' H' b xs:=l.aZ pr
    have rs':=rs.aZ pr
    refine⟨fun i d hd=>?_,⟨xs,l'.sq,by rw[←rs.length];unfold bV;simp⟩⟩
    unfold bV at hd
    rw[List.getElem?_map,List.getElem?_zipIdx] at hd
    cases e:es[i]? with
    | none=>rw [e] at hd;cases hd
    | some d0=>
      rw[e] at hd
      have hd:D.tup [.int ((0+i:Nat):Int),d0]=d:=Option.some.inj hd
      rw[Nat.zero_add] at hd
      obtain⟨x,hx,rx⟩:=rs'.get e
      refine⟨⟨xs,x,l'.sq,hx⟩,fun v H'' y hB'=>?_⟩
      obtain⟨p,y,hp,rfl,hy,rfl⟩:=y
      refine⟨aD hp,?_⟩
      subst hd
      have hy2:=hy xs l'.sq
      rw[hx] at hy2
      cases hy2
      refine Rep.tup.mpr ⟨p,_,rfl, .inl ⟨fun ha=>?_, .inl aN⟩,ay.cons (Rep.int.mpr rfl) (ay.cons (rx.same (aD hp)) ay.nil)⟩
      obtain⟨o,ho⟩:=hB' p ha
      rw[hp] at ho;cases ho
 | _=>cases h2
end
end L2
end
section
set_option maxRecDepth 100000
set_option maxHeartbeats 4000000
namespace L2
open PySem PySem.Spec PyProof.Rows
noncomputable def Def(K:PySem.W.Frag)(mg:Str→Option Value)(x:Str)(st:Stmt):Prop:=∃f fd,xQ K x x st f fd∧mg x=some (.ref f)
noncomputable def Callee(P:Program)(w:World)(K:PySem.W.Frag)(mg:Str→Option Value)(base:Heap)(k:Nat)(x:Str)(n:Nat)(g:List D→R D):Prop:=
 ∃f fd ps,f_ P w K mg base qk k f fd ps (A1 K n g)∧mg x=some (.ref f)∧PySem.W.keepIn K (.ref f)=true∧Binds K fd ps []
theorem dG:∀(δ:aq) (ds:List D),bb δ= .ok ds→ds.length=0:=fun δ ds h=>by cases h;rfl
theorem bq{f:FD}{g:aq→R (List D)}{n:Nat}(h:∀(δ:aq) (ds:List D),g δ= .ok ds→ds.length=n):∀(δ:aq) (ds:List D),aw f g δ= .ok ds→ds.length=n+1:=fun δ ds e=>by
 obtain⟨d,h1,h2⟩:=R.ab e
 obtain⟨es,h3,h4⟩:=R.ab h2
 cases h4
 rw[List.length_cons,h δ es h3]
theorem zQ{P:Program}{w:World}{K:PySem.W.Frag}{mg:Str→Option Value}{base:Heap}{x qual:Str}{st:Stmt}{f:Addr}{fd:FuncData}{N ps:List Str}{k:Nat}{F:FS}{b:List Stmt}{sc:Scope}(hb:aj st=b)(hs:ae st=sc)(Fn:xQ K x qual st f fd)(S:bf N ps sc)
 (hbody:∀(cdv:Value) (A:Around) (outer:List Env) (s:Shared) (H:Hp) (E:XK),dS k (A.deeper (envOfC qual sc s.heap.objs.size f cdv))→
   n0 (pe qk P w K mg base N qual sc f cdv A outer s H E).C3 b F):f_ P w K mg base qk (k+1) f fd ps (A1 K ps.length (oz N F)):=by
 subst hb hs
 exact DD Fn S hbody
section
variable {X:Cx}
theorem zK{g:List D→R D}{k j n:Nat}{x:Str}{p pos:Pos}{e:Expr}{es:List Expr}{fs:aq→R (List D)}(C:Callee X.prog X.w X.K X.mg X.base k x n g)(hr:dS j X.A)(hkj:k≤j)(hg:Gl X x)(ha:BU X (e ::es) fs)
 (hn:∀δ ds,fs δ= .ok ds→ds.length=n) (hdb:(x==("__debug__":Str))=false:=by decide) (he:starEach (e ::es) X.env=(false,eval e X.env) ::starEach es X.env:=by rfl) (hpl:(backTo pos (starEach es X.env)).any (·.1)=false:=by rfl) :
 PD X (.Call (.Name x p) (e ::es) [] pos) (aO g fs):=by
 obtain⟨f,fd,ps,F,hm,hk,hb⟩:=C
 exact B6 F (hr.mono hkj) hg hm hk hb ha hn hdb he hpl
noncomputable def HP(sc:Scope)(N:List Str)(scope:Scope)(kp:List Nat)(kn:List Str):Bool:=
 decide (scope.kind= .function) && scope.names.all (fun y=>decide (y.2= .cell→scope.names.lookup y.1=some .cell)) && scope.names.all (fun y=>decide (y.2= .local→scope.names.lookup y.1=some .local))
  && scope.names.all (fun y=>decide (y.2= .free→(sc.names.lookup y.1=some .cell∨sc.names.lookup y.1=some .free))) && scope.names.all (fun y=>decide (y.2= .free→scope.names.lookup y.1=some .free)) && decide (kn.length=kp.length)
  && (List.range kp.length).all (fun j=>decide ((kp[j]?).bind (N[·]?)=kn[j]?)) && kn.all (fun x=>decide (scope.names.lookup x=some .free))
theorem bM.of{scope:Scope}{own:List Str}{kp:List Nat}{kn:List Str}{sc:Scope}{N:List Str}(h1:X.env.scope=sc)(h2:X.N=N)(h:HP sc N scope kp kn=true):bM X scope own kp kn:=by
 unfold HP at h
 simp only[Bool.and_eq_true,decide_eq_true_eq,List.all_eq_true] at h
 obtain⟨⟨⟨⟨⟨⟨⟨a1,a2⟩,a3⟩,a4⟩,a8⟩,a5⟩,a6⟩,a7⟩:=h
 refine⟨a1,a2,a3,fun y hy hf=>?_,a8,a5,fun j i x hj hx=>?_,a7⟩
 ·have:=a4 y hy hf
  unfold Env.kindOf
  rw[h1]
  exact this
 ·have hlt:j < kp.length:=(List.getElem?_eq_some_iff.mp hj).1
  have:=a6 j (List.mem_range.mpr hlt)
  rw[hj] at this
  rw[h2]
  exact this.trans hx
noncomputable def LI(kvs:List (Key × V))(f g:FD):FD:=fun δ=>(f δ).bind fun k=>(g δ).bind fun d=>match k with
 | .str x=>(match jt (A8 [] kvs) (Sum.inr x) with | some (.int i)=> .ok (.int i) | none=> .ok d | _=> .no)
 | _=> .no
noncomputable def p_(i:Nat)(f:FD):FS:=fun δ=>(f δ).bind fun d=>match d with
 | .lst es=>(i5 δ i).bind fun ds=>R.bt (decide (ds.length+es.length≤sizeLine)) (.ok (.nx (δ.set i (.bld (ds++es)))))
 | _=> .no
end
end L2
end
section
set_option maxRecDepth 100000
set_option maxHeartbeats 4000000
namespace L2
open PySem PySem.Spec PyProof.Rows
structure QD (X:Cx) (e:Expr) (f:FD):Prop where
 h:PD X e f
structure QN (X:Cx) (e:Expr) (f:aq→R (List D)):Prop where
 h:PN X e f
structure QB (X:Cx) (e:Expr) (f:aq→R Bool):Prop where
 h:PB X e f
structure Fe (X:Cx) (e:Expr) (f:aq→R Bool):Prop where
 h:BZ X e f
structure Ef (X:Cx) (e:List Expr) (f:aq→R (List D)):Prop where
 h:BU X e f
structure D_ (X:Cx) (e:Stmt) (f:FS):Prop where
 h:CJ X e f
structure qq (X:Cx) (e:List Stmt) (f:FS):Prop where
 h:n0 X e f
structure HL (X:Cx) (e:Expr) (f:FT):Prop where
 h:GJ X e f
structure Dg (X:Cx) (e:List Expr) (f:Ad):Prop where
 h:AQ X e f
structure wX (X:Cx) (tg e:Expr) (f:aq→R (List D)):Prop where
 h:GK X tg e f
structure QP (X:Cx) (e:Option Expr) (f:FO):Prop where
 h:PP X e f
structure QJ (X:Cx) (e:List Expr) (f:aq→R (List Str)):Prop where
 h:PJ X e f
structure EU (X:Cx) (e:List Expr) (c:aq→R Bool):Prop where
 h:mW X e (Fz X.K c)
section
variable {X:Cx}
theorem dy{e:Expr}{f:aq→R (List D)}(h:QN X e f):QD X e (eNew f):=⟨Ge h.1⟩
theorem aa(i:Nat){x:Str}{pos:Pos}(hN:X.N[i]? =some x:=by rfl)(hv:DV X.env.scope x:=by first | exact Or.inl rfl | exact Or.inr (Or.inl rfl) | exact Or.inr (Or.inr rfl))(hd:(x==("__debug__":Str))=false:=by decide)(hcd:(x==("__classdict__":Str))=false:=by decide):QD X (.Name x pos) (ag i):=⟨Gk i hN hv hd hcd⟩
theorem af{i j pos}:QD X (.Constant (.int i) j pos) (eC (.int i)):=⟨E8⟩
theorem vQ{b j pos}:QD X (.Constant (.bool b) j pos) (eC (.bl b)):=⟨Hc⟩
theorem oF{j pos}:QD X (.Constant .none j pos) (eC .bX):=⟨Gp⟩
theorem cX{x j pos}:QD X (.Constant (.str x) j pos) (eC (.str x)):=⟨Fm⟩
theorem av:Ef X [] bb:=⟨C9⟩
theorem ah{e:Expr}{es:List Expr}{f:FD}{g:aq→R (List D)}(h:QD X e f)(t:Ef X es g)(hs:starEach (e ::es) X.env=(false,eval e X.env) ::starEach es X.env:=by rfl):Ef X (e ::es) (aw f g):=⟨AE h.1 t.1 hs⟩
theorem ef{es:List Expr}{g:aq→R (List D)}{x1 pos}(h:Ef X es g):QD X (.Tuple es x1 pos) (gh g):=⟨Gw h.1⟩
theorem dO{es:List Expr}{g:aq→R (List D)}{pos}(h:Ef X es g):QN X (.List es pos) (fD g):=⟨EZ h.1⟩
theorem aA{op:Operator}{g:D→D→R D}{a b:Expr}{fa fb:FD}{pos:Pos}(ho:iT X (binaryOp op) g)(ha:QD X a fa)(hb:QD X b fb):QD X (.BinOp a op b pos) (e2 g fa fb):=⟨Ia ho ha.1 hb.1⟩
theorem sQ{op:CmpOp}{g:D→D→R D}{a b:Expr}{fa fb:FD}{pos:Pos}(ho:iT X (compareOp op) g)(ha:QD X a fa)(hb:QD X b fb)(hm:behindInMarks op b=false):QD X (.Compare a [op] [b] pos) (e2 g fa fb):=⟨FC ho ha.1 hb.1 hm⟩
theorem cw{op:CmpOp}{g:D→D→R D}{a b:Expr}{fa fb:FD}{pos:Pos}(ho:iT X (compareOp op) g)(ha:QD X a fa)(hb:QD X b fb)(hm:behindInMarks op b=false):QB X (.Compare a [op] [b] pos) (b2 g fa fb):=⟨Fw ho ha.1 hb.1 hm⟩
theorem l3{a:Expr}{f:FD}(ha:QD X a f)(he:∀whole,isTrue a X.env whole=(do let v ←whole;standAt a.pos;holding [v] (truthy v)):=by intro _;rfl):QB X a (jR f):=⟨Ex ha.1 he⟩
theorem xX{e:Expr}{f:aq→R Bool}(h:Fe X e f):QB X e f:=⟨BZ.pb h.1⟩
theorem yx{a:Expr}{f:aq→R Bool}{pos:Pos}(h:QB X a f):Fe X (.BoolOp .And [a] pos) f:=⟨Am h.1⟩
theorem zS{a:Expr}{f:aq→R Bool}{pos:Pos}(h:QB X a f):Fe X (.BoolOp .Or [a] pos) f:=⟨DP h.1⟩
theorem Av{a b:Expr}{rest:List Expr}{f g:aq→R Bool}{pos:Pos}(ha:QB X a f)(hb:Fe X (.BoolOp .And (b ::rest) pos) g):Fe X (.BoolOp .And (a ::b ::rest) pos) (pS f g):=⟨CW ha.1 hb.1⟩
theorem DQ{a b:Expr}{rest:List Expr}{f g:aq→R Bool}{pos:Pos}(ha:QB X a f)(hb:Fe X (.BoolOp .Or (b ::rest) pos) g):Fe X (.BoolOp .Or (a ::b ::rest) pos) (AZ f g):=⟨Em ha.1 hb.1⟩
theorem oA{a:Expr}{f:aq→R Bool}{pos:Pos}(ha:QB X a f):QB X (.UnaryOp .Not a pos) (kK f):=⟨F7 ha.1⟩
theorem wj{c a b:Expr}{fc:aq→R Bool}{f g:FD}{pos:Pos}(hc:QB X c fc)(ha:QD X a f)(hb:QD X b g):QD X (.IfExp c a b pos) (xh fc f g):=⟨Hv hc.1 ha.1 hb.1⟩
theorem bo{g:List D→R D}{x:Str}{id:String}{p pos:Pos}{e:Expr}{es:List Expr}{fs:aq→R (List D)}(hc:cS X (.builtin id) g)(hg:Gl X x)(hm:X.mg x=none)(hv:bootBuiltins x=some (.builtin id))(ha:Ef X (e ::es) fs)(hn:x≠"__name__":=by decide)(hdb:(x==("__debug__":Str))=false:=by decide)(he:starEach (e ::es) X.env=(false,eval e X.env) ::starEach es X.env:=by rfl)(hpl:(backTo pos (starEach es X.env)).any (·.1)=false:=by rfl):QD X (.Call (.Name x p) (e ::es) [] pos) (aO g fs):=⟨zu hc hg hm hv ha.1 hn hdb he hpl⟩
theorem gR{g:List D→R D}{x:Str}{T:String}{p pos:Pos}{e:Expr}{es:List Expr}{fs:aq→R (List D)}(hc:cS X (.type T) g)(hg:Gl X x)(hm:X.mg x=none)(hv:bootBuiltins x=some (.type T))(ha:Ef X (e ::es) fs)(hn:x≠"__name__":=by decide)(hdb:(x==("__debug__":Str))=false:=by decide)(he:starEach (e ::es) X.env=(false,eval e X.env) ::starEach es X.env:=by rfl)(hpl:(backTo pos (starEach es X.env)).any (·.1)=false:=by rfl):QD X (.Call (.Name x p) (e ::es) [] pos) (aO g fs):=⟨zl hc hg hm hv ha.1 hn hdb he hpl⟩
theorem i7:qq X [] lz:=⟨Co⟩
theorem dg{st:Stmt}{rest:List Stmt}{F G:FS}(h1:D_ X st F)(h2:qq X rest G):qq X (st ::rest) (gg F G):=⟨Bk h1.1 h2.1⟩
theorem bL{st:Stmt}{F:FS}(h1:D_ X st F):qq X [st] F:=⟨Dj h1.1⟩
theorem pK{i:Nat}{x:Str}{e:Expr}{f:FD}{pos pos':Pos}(hN:X.N.Nodup)(hi:X.N[i]? =some x)(hx:Loc X.env.scope x)(he:QD X e f)(hs:swapsWith e (some (.Name x pos')) pos.line X.env=pure false:=by rfl)(hf:X.fn x=true∨X.env.scope.names.lookup x=some .local:=by first | exact .inl rfl | exact .inr rfl | assumption):D_ X (.Assign [.Name x pos'] e pos) (lC i f):=⟨C4 hN hi hx he.1 hs hf⟩
theorem Az{i:Nat}{x:Str}{e:Expr}{f:aq→R (List D)}{pos pos':Pos}(hN:X.N.Nodup)(hi:X.N[i]? =some x)(hx:Loc X.env.scope x)(he:QN X e f)(hs:swapsWith e (some (.Name x pos')) pos.line X.env=pure false:=by rfl)(hf:X.fn x=true∨X.env.scope.names.lookup x=some .local:=by first | exact .inl rfl | exact .inr rfl | assumption):D_ X (.Assign [.Name x pos'] e pos) (m_ i f):=⟨Dp hN hi hx he.1 hs hf⟩
theorem zx{i:Nat}{x:Str}{e:Expr}{f:FD}{npos apos cpos pos:Pos}(hN:X.N[i]? =some x)(hv:DV X.env.scope x)(he:QD X e f)(hd:(x==("__debug__":Str))=false:=by decide)(hcd:(x==("__classdict__":Str))=false:=by decide)(hs:starEach [e] X.env=(false,eval e X.env) ::starEach [] X.env:=by rfl)(hline:(apos.endLine==cpos.line)=true:=by rfl)(hfew:((backTo cpos (starEach [e] X.env)).all (fun x=>!x.1) && (backToKw cpos (keywordEach [] X.env)).all (fun x=>x.1.isSome)
 && decide (([e]:List Expr).length+([]:List Keyword).length+(if([]:List Keyword).isEmpty then 0 else 1) < 30))=true:=by rfl) (hsw:swapsWith (.Call (.Attribute (.Name x npos) "append" apos) [e] [] cpos) none pos.line X.env=pure false:=by rfl) (hbase:attributeBase (.Name x npos) "append" X.env (eval (.Name x npos) X.env)=eval (.Name x npos) X.env:=by rfl):D_ X (.Expr (.Call (.Attribute (.Name x npos) "append" apos) [e] [] cpos) pos) (nV i f):=⟨Dy hN hv he.1 hd hcd hs hline hfew hsw hbase⟩
theorem zH(i:Nat){sts:List Stmt}{F:FS}(h:qq X sts F):qq X sts (pC i F):=⟨Dt i h.1⟩
theorem cv{e:Expr}{f:FD}{pos:Pos}(he:QD X e f):D_ X (.Return (some e) pos) (fM f):=⟨CY he.1⟩
theorem kF{c:Expr}{a b:List Stmt}{fc:aq→R Bool}{F G:FS}{pos:Pos}(hc:QB X c fc)(ha:qq X a F)(hb:qq X b G):D_ X (.If c a b pos) (tj fc F G):=⟨Ff hc.1 ha.1 hb.1⟩
theorem bz{i:Nat}{x:Str}{pos:Pos}(hN:X.N.Nodup)(hi:X.N[i]? =some x)(hx:Loc X.env.scope x)(hf:X.fn x=true∨X.env.scope.names.lookup x=some .local:=by first | exact .inl rfl | exact .inr rfl | assumption):HL X (.Name x pos) (bg i):=⟨z6 hN hi hx hf⟩
theorem mP:Dg X [] g_:=⟨zT⟩
theorem fH{e:Expr}{es:List Expr}{t:FT}{u:Ad}(h1:HL X e t)(h2:Dg X es u)(hs:(assignEach (e ::es) X.env).map (·.2)=assign e X.env ::(assignEach es X.env).map (·.2):=by rfl):Dg X (e ::es) (c7 t u):=⟨yB h1.1 h2.1 hs⟩
theorem pX{es:List Expr}{k:Nat}{t:Ad}{n:Nat}{pos:Pos}(hc:X.calm=true)(h:Dg X es t)(hn:(assignEach es X.env).length=n:=by rfl)(hst:(assignEach es X.env).findIdx? (·.1)=none:=by rfl):HL X (.Tuple es k pos) (ip n t):=⟨CV hc h.1 hn hst⟩
theorem bG{tg e:Expr}{f:FD}(h:QD X e f):wX X tg e (c0 f):=⟨DL h.1⟩
theorem iI{tg a:Expr}{f:FD}{p pos:Pos}(h:QD X a f)(hg:Gl X "range")(hm:X.mg "range"=none)(hs:starEach [a] X.env=[(false,eval a X.env)]:=by rfl):wX X tg (.Call (.Name "range" p) [a] [] pos) (j2 f):=⟨wG h.1 hg hm hs⟩
theorem qb{tg iter:Expr}{body:List Stmt}{it:aq→R (List D)}{t:FT}{F:FS}{pos:Pos}(hp:PassesOwn (model X.prog X.w) X.A X.env X.xe)(hc:X.calm=true)(hi:wX X tg iter it)(hg:HL X tg t)(hb:qq X body F)(hs:∀x,foldedSetIterable iter X.env x=pure x:=by intro _;rfl):D_ X (.For tg iter body [] pos) (wK it t F):=⟨C6 hp hc hi.1 hg.1 hb.1 hs⟩
theorem dn{scope:Scope}{own:List Str}{kp:List Nat}{kn:List Str}{tg iter elt:Expr}{ifs:List Expr}{it:aq→R (List D)}{t:FT}{c:aq→R Bool}{f:FD}{pos:Pos}(hc:X.calm=true)(C:bM X scope own kp kn)(hi:wX X tg iter it)(hg:∀fp s H,HL (bw X scope (own++kn) fp s H) tg t)(hif:∀fp s H,EU (bw X scope (own++kn) fp s H) ifs c)(he:∀fp s H,QD (bw X scope (own++kn) fp s H) elt f)(hs:∀x,foldedSetIterable iter X.env x=pure x:=by intro _;rfl):QN X (.ListComp elt [⟨tg,iter,ifs,0⟩] scope pos) (et it t c f own kp):=⟨Cc hc C hi.1 (fun fp s H=>(hg fp s H).1) (fun fp s H=>(hif fp s H).1) (fun fp s H=>(he fp s H).1) hs⟩
theorem dN:EU X [] jV:=⟨Ah⟩
theorem oY{e:Expr}{c:aq→R Bool}(h:QB X e c):EU X [e] c:=⟨CD h.1⟩
theorem aJ{a b:Expr}{fa fb:FD}{pos:Pos}(ha:QD X a fa)(hb:QD X b fb)(hs:ox b):QD X (.Subscript a b pos) (e2 cR fa fb):=⟨GU ha.1 hb.1 hs⟩
theorem mC:QP X none iU:=⟨CG⟩
theorem l5{e:Expr}{f:FD}(h:QD X e f):QP X (some e) (g9 f):=⟨Cq h.1⟩
theorem tH{e:Expr}{lo hi:Option Expr}{f:FD}{fl fh:FO}{p2 pos:Pos}(he:QD X e f)(hl:QP X lo fl)(hh:QP X hi fh):QD X (.Subscript e (.Slice lo hi none p2) pos) (w9 f fl fh):=⟨Ib he.1 hl.1 hh.1⟩
theorem ku{elts:List Expr}{k:Nat}{tpos:Pos}{a:Expr}{f:FD}{p pos:Pos}(h:QD X a f)(hg:Gl X "enumerate")(hm:X.mg "enumerate"=none)(hs:starEach [a] X.env=[(false,eval a X.env)]:=by rfl):wX X (.Tuple elts k tpos) (.Call (.Name "enumerate" p) [a] [] pos) (gP f):=⟨uQ h.1 hg hm hs⟩
theorem dJ{P:Program}{w:World}{K:PySem.W.Frag}{mg:Str→Option Value}{base:Heap}{x qual:Str}{st:Stmt}{f:Addr}{fd:FuncData}{N ps:List Str}{k:Nat}{F:FS}{b:List Stmt}{sc:Scope}(hb:aj st=b)(hs:ae st=sc)(Fn:xQ K x qual st f fd)(S:bf N ps sc)(hbody:∀(cdv:Value) (A:Around) (outer:List Env) (s:Shared) (H:Hp) (E:XK),dS k (A.deeper (envOfC qual sc s.heap.objs.size f cdv))→
 qq (pe qk P w K mg base N qual sc f cdv A outer s H E).C3 b F):f_ P w K mg base qk (k+1) f fd ps (A1 K ps.length (oz N F)):=zQ hb hs Fn S (fun cdv A outer s H E hr=>(hbody cdv A outer s H E hr).1)
theorem cV{g:List D→R D}{k j n:Nat}{x:Str}{p pos:Pos}{e:Expr}{es:List Expr}{fs:aq→R (List D)}(C:Callee X.prog X.w X.K X.mg X.base k x n g)(hr:dS j X.A)(hkj:k≤j)(hg:Gl X x)(ha:Ef X (e ::es) fs)(hn:∀δ ds,fs δ= .ok ds→ds.length=n)(hdb:(x==("__debug__":Str))=false:=by decide)(he:starEach (e ::es) X.env=(false,eval e X.env) ::starEach es X.env:=by rfl)(hpl:(backTo pos (starEach es X.env)).any (·.1)=false:=by rfl):QD X (.Call (.Name x p) (e ::es) [] pos) (aO g fs):=⟨zK C hr hkj hg ha.1 hn hdb he hpl⟩
end
end L2
end
section
set_option maxRecDepth 100000
set_option maxHeartbeats 4000000
namespace L2
open PySem PySem.Spec PyProof.Rows
theorem yS{P:Program}{w:World}{K:PySem.W.Frag}{mg mb:Str→Option Value}{CX:zA}{k:Nat}{fa a:Addr}{fd:FuncData}{x:Str}{sp:Sp}{s₁:Shared}{vs:List Value}{ns:List Int}
 (KX:K.In s₁.heap) (hns:s₁.heap.Ns mainGlobals mg) (hb:s₁.heap.Ns builtinsNs mb) (hbb:∀x:Str,x≠"__name__"→mb x=bootBuiltins x) (hlim:s₁.heap.NoLimit) (hg:s₁.gens=#[])
 (ha:s₁.heap.get? a=some {cls:= .type "list",data:= .seq vs.toArray}) (hi:IntsAre vs ns) (hl:ns.length≤sizeLine) (hr:dS k callerA)
 (F:∀base:Heap,K.In base→base.Ns mainGlobals mg→f_ P w K mg base CX k fa fd [x] sp) (hbind:∀(s:Shared) (u:Value),BindsTo s fd ⟨[u],[]⟩ [(x,u)])
 (hsp:∀H:Hp,HR H→ql K [] H a (ns.map V.int)→sp [.ref a] H (fun v _=>v= .bl true) fun _ _ _=>False)
 (hCX:∀H e s',CX [] H s₁ (fun _ _ _=>False) e s'→False) :
 codeAny (model P w) callerA (.call (.ref fa) ⟨[.ref a],[]⟩) (fun r s'=>r= .ok (.ret (.bool true))∧OldK s₁.heap s'.heap∧s'.os=s₁.os∧AllBare s'.gens) s₁:=by
 have rv:=qP hi
 have lenV:=hi.length
 have core:∀H:Hp,HR H→ql K [] H a (ns.map V.int)→kL P w H s₁.heap→(∀b,H b≠none→b=a)→(H a≠none→K.lookup a=none)→
  codeAny (model P w) callerA (.call (.ref fa) ⟨[.ref a],[]⟩) (fun r s'=>r= .ok (.ret (.bool true))∧OldK s₁.heap s'.heap∧s'.os=s₁.os∧AllBare s'.gens) s₁:=by
  intro H hO hS hok hA hK
  have base_of:∀{b:Addr} {o:Obj},s₁.heap.get? b=some o→H b=none→(sP s₁.heap H).get? b=some o:=fun e n=>AS e n
  have noA:∀{b:Addr} {o:Obj} {es:Array DictEntry} {ep:Nat},s₁.heap.get? b=some o→o.data= .dict es ep→H b=none:=fun {b o es ep} e d=>by
   cases q:H b with
   | none=>rfl
   | some u=>
     have e':b=a:=hA b (by rw[q];simp)
     subst e'
     rw[ha] at e;cases e
     have d':Data.seq vs.toArray _=Data.dict es ep:=d
     cases d'
  have nsK:∀{b:Addr} {m:Str→Option Value},s₁.heap.Ns b m→(sP s₁.heap H).Ns b m:=fun {b m} ⟨o,es,ep,e,d,r⟩=>⟨o,es,ep,base_of e (noA e d),d,r⟩
  have hKb:K.In (sP s₁.heap H):=fun b o e=>base_of (KX b o e) (by
   cases q:H b with
   | none=>rfl
   | some u=>
     have e':b=a:=hA b (by rw[q];simp)
     subst e'
     rw[hK (by rw[q];simp)] at e;cases e)
  have hM:Mod K mg (sP s₁.heap H):=⟨hKb,nsK hns,⟨mb,nsK hb,hbb⟩,let⟨mc,h1,h2⟩:=hlim;⟨mc,nsK h1,h2⟩⟩
  have e0:vk P w K mg (sP s₁.heap H) callerA [] s₁ H:=⟨rfl,hM,fun b o e=>DR e,Nat.le_of_eq (yN _ _),trivial,fun b hb=>absurd (show b∈([]:List Addr) from hb) (by simp),hok, .of_eq hg⟩
  refine codeAny_mono ((F _ hKb (nsK hns)).run callerA [] s₁ H ⟨[.ref a],[]⟩ [.ref a] [.ref a] _ _ hr e0 (hbind s₁ (.ref a)) (.cons rfl .nil) (hsp H hO hS)) fun r s' h=>?_
  cases r with
  | error e=>exact(hCX H e s' h).elim
  | ok fl=>
    cases fl with
    | next=>exact False.elim h
    | brk=>exact False.elim h
    | cont=>exact False.elim h
    | ret u=>
      obtain⟨v,H',os,bare,un,hok',r',q⟩:=h
      have q':v= .bl true:=q
      subst q'
      obtain rfl:u=Value.bool true:=r'
      refine⟨rfl,OldK.of_keep fun b o e=>?_,os,bare⟩
      cases q:H b with
      | none=>exact un.keep b o e q (by intro z;exact absurd (show b∈([]:List Addr) from z) (by simp)) (by simp)
      | some u=>
        rcases hO b with z | ⟨ob,xs,z⟩
        ·rw[q] at z;cases z
        ·have z2:=un.frzs b ob _ z
         obtain⟨e1,_⟩:=hok b _ z
         obtain⟨e2,_⟩:=hok' b _ z2
         rw[e] at e1;cases e1
         exact e2
 cases hk:K.lookup a with
 | some o=>
   have e:=KX a o hk
   rw[ha] at e
   cases e
   refine core (fun _=>none) (fun _=> .inl rfl) (.inr ⟨vs,_,hk,by rw[List.length_map];exact hl,rv⟩) (fun b u z=>by have z':(none:Option HO)=some u:=z;cases z') (fun b z=>absurd rfl z) fun z=>absurd rfl z
 | none=>
   refine core (fun b=>if b=a then some (.gq {cls:= .type "list",data:= .seq vs.toArray} (.lst (ns.map V.int))) else none) (fun b=>?_) (.inl ⟨by simp, .inr ⟨{cls:= .type "list",data:= .seq vs.toArray},if_pos rfl⟩⟩) (fun b u z=>?_) (fun b z=>?_) fun _=>hk
   ·by_cases hb:b=a
    ·exact .inr ⟨_,_,if_pos hb⟩
    ·exact .inl (if_neg hb)
   ·by_cases hb:b=a
    ·have z':=(if_pos hb).symm.trans z
     cases z'
     subst hb
     exact⟨ha,by rw[List.length_map];exact hl,vs,_,rv,ha⟩
    ·have z':=(if_neg hb).symm.trans z
     cases z'
   ·by_cases hb:b=a
    ·exact hb
    ·exact absurd (if_neg hb) z
theorem ints_rep{K:PySem.W.Frag}{B:List Addr}{H:Hp}:∀ns:List Int,ay K B H (ns.map D.int) (ns.map V.int)
 | []=>ay.nil
 | n ::ns=>ay.cons (Rep.int.mpr rfl) (ints_rep ns)
theorem HB{l:PySem.W.OpenLaw}{n k:Nat}{q:Program}{loose:List Str}{XP:(Str→Option Value)→Heap→Prop}{YP:World→Heap→Prop}{d:DefRec}{K:Params→PySem.W.Frag}{x:Str}{g:List D→R D}
 (hn:l.most=some n) (hn2:n≤sizeLine) (hdf:d.params.defaults=[]) (hr:dS k callerA) (hY:∀(w:World) (h:Heap),YP w h→(K w.params).In h)
 (F:∀(w:World) (mg:Str→Option Value) (fa:Addr) (h:Heap),(K w.params).In h→h.Ns mainGlobals mg→mg d.name=some (.ref fa)→
   ∃fd:FuncData,(∀(s:Shared) (u:Value),BindsTo s fd ⟨[u],[]⟩ [(x,u)])∧∀base:Heap,(K w.params).In base→base.Ns mainGlobals mg→f_ l.prog w (K w.params) mg base qk k fa fd [x] (A1 (K w.params) 1 g))
 (hg:∀ns:List Int,ns.length≤n→g [.lst (ns.map D.int)]= .ok (.bl true)):PySem.W.WalkO q loose XP YP l.row.toRowW d [] (fun f vs=>PySem.call f vs):=by
 refine Att.uf hn hdf fun w s₀ s₁ mg mb fa o pm cd doc a vs ns G Y ho hd hcd hmg hobj hints hlen hgen=>?_
 have KX:=hY w _ Y
 obtain⟨fd,hb,hF⟩:=F w mg fa _ KX G.T.g hmg
 refine yS KX G.T.g G.T.b G.T.builtins G.T.nolimit hgen hobj hints (Nat.le_trans hlen hn2) hr hF hb (fun H hO hS=>?_) fun H e s' h=>h
 refine⟨rfl,[],[.lst (ns.map D.int)], .bl true,fun b hb=>(by cases hb),ay.cons (Rep.lst.mpr ⟨_,_,rfl,hS,ints_rep ns⟩) ay.nil,hg ns hlen,fun z H' _ r=>Rep.bl.mp r⟩
theorem cM{K:PySem.W.Frag}{h:Heap}{mg:Str→Option Value}{x:Str}{st:Stmt}{f:Addr}{oc:Value}{od an:Option Addr}{osl:Array (Option Value)}{kV doc pm cdv ct:Value}(X:K.In h)(G:h.Ns mainGlobals mg)(a:PySem.W.nsIn K mainGlobals x=some (some (.ref f)))
 (l:K.lookup f=some ⟨oc,od, .func (PySem.W.fnOf x x (fR st) (aj st) (ae st) .none kV doc pm an cdv ct),osl⟩) (c:PySem.W.codeIn K cdv x=true) (k:PySem.W.keepIn K (.ref f)=true):Def K mg x st:=
 ⟨f,_,nj l c k,PySem.W.mg_of X G a⟩
end L2
end
section
set_option maxRecDepth 100000
set_option maxHeartbeats 4000000
namespace L2
open PySem PySem.Spec PyProof.Rows
theorem pE{t:FT}{body:FS}:∀(ds:List D) (n:Nat) (P:Nat→aq→Prop) {δ:aq},P n δ→
 (∀i d δ,ds[i]? =some d→P (n+i) δ→∃δ',((t d δ).bind body)= .ok (.nx δ')∧P (n+i+1) δ')→∃δ',nP t body ds δ= .ok (.nx δ')∧P (n+ds.length) δ'
 | [],n,P,δ,h0,_=>⟨δ,rfl,h0⟩
 | d ::ds,n,P,δ,h0,hs=>by
   obtain⟨δ1,e1,p1⟩:=hs 0 d δ rfl h0
   obtain⟨δ2,e2,p2⟩:=pE ds (n+1) P p1 (fun i d' δ' hi hp=>by
    have:=hs (i+1) d' δ' (by simpa using hi) (by rw[show n+(i+1)=n+1+i by omega];exact hp)
    rw[show n+(i+1)+1=n+1+i+1 by omega] at this
    exact this)
   refine⟨δ2,?_,by rw[List.length_cons,show n+(ds.length+1)=n+1+ds.length by omega];exact p2⟩
   obtain⟨δ0,h1,h2⟩:=R.ab e1
   show(t d δ).bind (fun δ1=>(body δ1).bind fun o=>match o with | .nx δ2=>nP t body ds δ2 | .rt r=> .ok (.rt r))=_
   rw[h1,R.aP,h2,R.aP]
   exact e2
theorem nA{t:FT}{body:FS}{ds:List D}(P:Nat→aq→Prop){δ:aq}(h0:P 0 δ)
 (hs:∀i d δ,ds[i]? =some d→P i δ→∃δ',((t d δ).bind body)= .ok (.nx δ')∧P (i+1) δ'):∃δ',nP t body ds δ= .ok (.nx δ')∧P ds.length δ':=by
 have:=pE (t:=t) (body:=body) ds 0 P h0 (fun i d δ hi hp=>by simpa using hs i d δ hi (by simpa using hp))
 simpa using this
theorem vK{α:Type} [DecidableEq α]:∀(L F:List α),L.Nodup→(∀x∈L,x∈F)→L.length≤F.length
 | [],_,_,_=>Nat.zero_le _
 | x ::L,F,hn,hs=>by
   obtain⟨h1,h2⟩:=List.nodup_cons.mp hn
   have hx:x∈F:=hs x List.mem_cons_self
   have ih:=vK L (F.erase x) h2 (fun y hy=>(List.mem_erase_of_ne (fun(e:y=x)=>h1 (by rw[←e];exact hy))).mpr (hs y (List.mem_cons_of_mem _ hy)))
   rw[List.length_erase_of_mem hx] at ih
   have:0 < F.length:=List.length_pos_of_mem hx
   rw[List.length_cons]
   omega
theorem mZ{α:Type}{xs:List α}{i:Int}(h0:0≤i)(h:i.toNat < xs.length):nR xs i=some xs[i.toNat]:=by
 unfold nR qj
 rw[if_pos h0,if_pos (by omega)]
 simp [h]
theorem ints_map:∀ss:List Int,ints? (ss.map D.int)=some ss
 | []=>rfl
 | s ::ss=>by show(ints? (ss.map D.int)).map (s ::·)=_;rw [ints_map ss];rfl
theorem cx{F G:FS}{δ δ1:aq}{r:R Out}(h:F δ= .ok (.nx δ1))(h2:G δ1=r):gg F G δ=r:=by unfold gg;rw [h,R.aP];exact h2
theorem eJ{f:aq→R (List D)}{δ:aq}{ds:List D}(h:f δ= .ok ds):eNew f δ= .ok (.lst ds):=by unfold eNew;rw [h];rfl
theorem qN{c:aq→R Bool}{F G:FS}{δ:aq}{r:R Out}(h:c δ= .ok true)(h2:F δ=r):tj c F G δ=r:=by unfold tj;rw [h,R.aP,if_pos rfl];exact h2
theorem iZ{c:aq→R Bool}{F G:FS}{δ:aq}{r:R Out}(h:c δ= .ok false)(h2:G δ=r):tj c F G δ=r:=by unfold tj;rw [h,R.aP,if_neg (by decide)];exact h2
theorem tf{it:aq→R (List D)}{t:FT}{F:FS}{δ:aq}{ds:List D}{r:R Out}(h:it δ= .ok ds)(h2:nP t F ds δ=r):wK it t F δ=r:=by unfold wK;rw [h,R.aP];exact h2
theorem cY{f:FD}{δ:aq}{d:D}(h:f δ= .ok d):fM f δ= .ok (.rt d):=by unfold fM;rw [h];rfl
theorem d4{N:List Str}{F:FS}{ds:List D}{d:D}(h:F (dk N ds)= .ok (.rt d)):oz N F ds= .ok d:=by unfold oz;rw [h];rfl
theorem bQ{α:Type}{p:Prop} [Decidable p](r:R α)(h:p):R.bt (decide p) r=r:=by rw[decide_eq_true h];rfl
theorem oi{i:Nat}{f:FD}{δ:aq}{d:D}(h:f δ= .ok d)(hi:i < δ.length):lC i f δ= .ok (.nx (δ.set i (.val d))):=by unfold lC;rw [h,R.aP,bQ _ hi]
theorem Dm{i:Nat}{f:aq→R (List D)}{δ:aq}{ds:List D}(h:f δ= .ok ds)(hi:i < δ.length):m_ i f δ= .ok (.nx (δ.set i (.bld ds))):=by unfold m_;rw [h,R.aP,bQ _ hi]
theorem Df{i:Nat}{f:FD}{δ:aq}{d:D}{ds:List D}(h:f δ= .ok d)(hb:δ[i]? =some (.bld ds))(hl:ds.length < sizeLine):nV i f δ= .ok (.nx (δ.set i (.bld (ds++[d])))):=by unfold nV i5;rw [h,R.aP,hb];show R.bt _ _=_;rw [bQ _ hl]
theorem dm{it:aq→R (List D)}{t:FT}{c:aq→R Bool}{f:FD}{own:List Str}{kp:List Nat}{δ:aq}{ds ys:List D}(h1:it δ= .ok ds)(h2:ds.length≤sizeLine)(h3:me t c f (qB own kp δ) ds= .ok ys):et it t c f own kp δ= .ok ys:=by unfold et;rw [h1,R.aP,bQ _ h2,h3]
theorem wH{ds:List D}{i:Int}{d:D}(h:nR ds i=some d):cR (.lst ds) (.int i)= .ok d:=by unfold cR;simp only[h]
theorem sU{ds:List D}{i:Int}{d:D}(h:nR ds i=some d):cR (.tup ds) (.int i)= .ok d:=by unfold cR;simp only[h]
end L2
end
section
set_option maxRecDepth 100000
namespace L2
open PySem PySem.Spec PyProof.Rows
theorem az{g:D→D→R D}{fa fb:FD}{δ:aq}{a b:D}{r:R D}(ha:fa δ= .ok a)(hb:fb δ= .ok b)(h:g a b=r):e2 g fa fb δ=r:=by unfold e2;rw [ha,R.aP,hb,R.aP];exact h
theorem jh{g:D→D→R D}{fa fb:FD}{δ:aq}{a b:D}{k:Bool}(ha:fa δ= .ok a)(hb:fb δ= .ok b)(h:g a b= .ok (.bl k)):b2 g fa fb δ= .ok k:=by unfold b2;rw [az ha hb h];rfl
theorem a_{f:FD}{g:aq→R (List D)}{δ:aq}{d:D}{ds:List D}(h:f δ= .ok d)(h2:g δ= .ok ds):aw f g δ= .ok (d ::ds):=by unfold aw;rw [h,R.aP,h2];rfl
theorem aM{g:List D→R D}{fs:aq→R (List D)}{δ:aq}{ds:List D}{r:R D}(h:fs δ= .ok ds)(h2:g ds=r):aO g fs δ=r:=by unfold aO;rw [h,R.aP];exact h2
theorem gB{g:aq→R (List D)}{δ:aq}{ds:List D}(h:g δ= .ok ds)(hl:ds.length≤sizeLine):gh g δ= .ok (.tup ds):=by unfold gh;rw [h,R.aP,bQ _ hl]
theorem oE{g:aq→R (List D)}{δ:aq}{ds:List D}(h:g δ= .ok ds)(hl:ds.length≤sizeLine):fD g δ= .ok ds:=by unfold fD;rw [h,R.aP,bQ _ hl]
theorem rR{f:FD}{fl fh:FO}{δ:aq}{d:D}{lo hi:Option Int}{r:R D}(h:f δ= .ok d)(h1:fl δ= .ok lo)(h2:fh δ= .ok hi)(h3:DZ d lo hi=r):w9 f fl fh δ=r:=by unfold w9;rw [h,R.aP,h1,R.aP,h2,R.aP];exact h3
theorem uH{f:FD}{δ:aq}{i:Int}(h:f δ= .ok (.int i)):g9 f δ= .ok (some i):=by unfold g9;rw [h];rfl
theorem BP{a b:Int}(h:0 < b):jQ (.int a) (.int b)= .ok (.int (a % b)):=by unfold jQ tJ;exact bQ _ h
theorem Cm{a b:Int}(h:0 < b)(h2:b < 1073741824):jN (.int a) (.int b)= .ok (.int (a / b)):=by unfold jN tJ;exact bQ _ ⟨h,h2⟩
theorem oC{f:FD}{δ:aq}{n:Nat}(h:f δ= .ok (.int n))(hn:n < 1000000):j2 f δ= .ok (gp 0 n):=by
 unfold j2;rw [h,R.aP];show R.bt (decide (-(2 ^ 62)≤(n:Int)∧(n:Int) < 2 ^ 62)) _=_
 rw[bQ _ ⟨by omega,by omega⟩,Int.toNat_natCast]
theorem fq{f:FD}{δ:aq}{ds:List D}(h:f δ= .ok (.lst ds)):c0 f δ= .ok ds:=by unfold c0;rw [h];rfl
theorem vL{f:FD}{δ:aq}{ds:List D}(h:f δ= .ok (.tup ds)):c0 f δ= .ok ds:=by unfold c0;rw [h];rfl
theorem E4{f:FD}{δ:aq}{ds:List D}(h:f δ= .ok (.lst ds)):gP f δ= .ok (bV ds):=by unfold gP;rw [h];rfl
theorem lj(ds:List D):eu [.lst ds]= .ok (.int ds.length):=rfl
end L2
end
section
set_option maxRecDepth 100000
set_option maxHeartbeats 4000000
namespace L3
open PySem PySem.Spec PyProof.Rows L2
inductive V3 where
 | d (x:D) | loc (k:Nat) | lst (vs:List V3) | tup (vs:List V3)
inductive SO where
 | lst (ds:List D) | dct (kvs:List (Key × D)) | ins (c:Nat) (fs:List (Str × V3)) | gq
noncomputable abbrev aF:=List SO
inductive R3 (α:Type) where
 | ok (a:α) (S:aF) | ex (c:Nat) (S:aF) | no
noncomputable def R3.bind{α β:Type}:R3 α→(α→aF→R3 β)→R3 β
 | .ok a S,f=>f a S
 | .ex c S,_=> .ex c S
 | .no,_=> .no
theorem R3.ab{α β:Type}{r:R3 α}{f:α→aF→R3 β}{b:β}{S':aF}(h:r.bind f= .ok b S'):∃a S,r= .ok a S∧f a S= .ok b S':=by
 cases r with
 | ok a S=>exact⟨a,S,rfl,h⟩
 | ex c S=>cases h
 | no=>cases h
@[simp] theorem R3.aP{α β:Type}(a:α)(S:aF)(f:α→aF→R3 β):(R3.ok a S).bind f=f a S:=rfl
noncomputable def R3.bt{α:Type}(c:Bool)(r:R3 α):R3 α:=if c then r else .no
theorem R3.aS{α:Type}{c:Bool}{r:R3 α}{a:α}{S:aF}(h:R3.bt c r= .ok a S):c=true∧r= .ok a S:=by
 cases c with
 | true=>exact⟨rfl,h⟩
 | false=>cases h
noncomputable def R3.of{α:Type}(r:R α)(S:aF):R3 α:=match r with | .ok a=> .ok a S | _=> .no
theorem R3.of_ok{α:Type}{r:R α}{S S':aF}{a:α}(h:R3.of r S= .ok a S'):r= .ok a∧S'=S:=by
 cases r with
 | ok b=>cases h;exact⟨rfl,rfl⟩
 | ex c=>cases h
 | no=>cases h
structure P3 where
 r:List Addr
 z:List Addr
 f:List Addr
noncomputable def P3.b(ρ:P3):List Addr:=ρ.r.filter (fun a=>!ρ.f.contains a)++ρ.z
theorem P3.dv{ρ:P3}{a:Addr}:a∈ρ.b↔(a∈ρ.r∧a ∉ ρ.f)∨a∈ρ.z:=by
 unfold P3.b
 rw[List.mem_append,List.mem_filter]
 simp
noncomputable def P3.push(ρ:P3)(a:Addr):P3:=⟨ρ.r++[a],ρ.z,ρ.f⟩
noncomputable def P3.cut(ρ:P3)(n:Nat):P3:=⟨ρ.r.take n,ρ.z,ρ.f⟩
mutual
noncomputable def aL(K:PySem.W.Frag)(ρ:P3)(H:Hp):V3→V→Prop
 | .d x,v=>Rep K ρ.b H x v
 | .loc k,v=>∃a,ρ.r[k]? =some a∧v= .ref a
 | .lst vs,v=>∃a xs,v= .ref a∧ql K ρ.b H a xs∧ax K ρ H vs xs
 | .tup vs,v=>∃a xs,v= .ref a∧qO K ρ.b H a xs∧ax K ρ H vs xs
noncomputable def ax(K:PySem.W.Frag)(ρ:P3)(H:Hp):List V3→List V→Prop
 | [],xs=>xs=[]
 | d ::ds,xs=>∃x r,xs=x ::r∧aL K ρ H d x∧ax K ρ H ds r
end
structure Pre (ρ:P3) (H:Hp) (ρ':P3) (H':Hp):Prop where
 aZ:c_ ρ.b H ρ'.b H'
 zz:ρ'.z=ρ.z
 zs:∀(b:Addr) (o:HO),b∈ρ.z→H b=some o→H' b=some o
 ext:∀(k:Nat) (a:Addr),ρ.r[k]? =some a→ρ'.r[k]? =some a
theorem Pre.refl(ρ:P3)(H:Hp):Pre ρ H ρ H:=⟨c_.refl ρ.b H,rfl,fun _ _ _ h=>h,fun _ _ h=>h⟩
theorem Pre.trans{ρ ρ' ρ'':P3}{H H' H'':Hp}(a:Pre ρ H ρ' H')(b:Pre ρ' H' ρ'' H''):Pre ρ H ρ'' H'':=⟨a.aZ.trans b.aZ,b.zz.trans a.zz,fun c o hc h=>b.zs c o (by rw[a.zz];exact hc) (a.zs c o hc h),fun k x h=>b.ext k x (a.ext k x h)⟩
theorem Pre.same{ρ:P3}{H H':Hp}(s:aK H H'):Pre ρ H ρ H':=⟨c_.same s,rfl,fun b o _ h=>s b o h,fun _ _ h=>h⟩
theorem qO.aZ{K:PySem.W.Frag}{B B':List Addr}{H H':Hp}(p:c_ B H B' H'){a:Addr}{xs:List V}(l:qO K B H a xs):qO K B' H' a xs:=
 l.elim (fun z=> .inl ⟨(p.rd z.2 z.1).2,(p.rd z.2 z.1).1⟩) .inr
mutual
theorem aL.pre{K:PySem.W.Frag}{ρ ρ':P3}{H H':Hp}(p:Pre ρ H ρ' H'):∀{d:V3} {v:V},aL K ρ H d v→aL K ρ' H' d v
 | .d x,v,h=>by unfold aL at h ⊢;exact h.aZ p.aZ
 | .loc k,v,h=>by unfold aL at h ⊢;obtain⟨a,h1,h2⟩:=h;exact⟨a,p.ext k a h1,h2⟩
 | .lst vs,v,h=>by unfold aL at h ⊢;obtain⟨a,xs,e,l,r⟩:=h;exact⟨a,xs,e,l.aZ p.aZ,ax.pre p r⟩
 | .tup vs,v,h=>by unfold aL at h ⊢;obtain⟨a,xs,e,l,r⟩:=h;exact⟨a,xs,e,qO.aZ p.aZ l,ax.pre p r⟩
theorem ax.pre{K:PySem.W.Frag}{ρ ρ':P3}{H H':Hp}(p:Pre ρ H ρ' H'):∀{ds:List V3} {xs:List V},ax K ρ H ds xs→ax K ρ' H' ds xs
 | [],_,h=>by unfold ax at h ⊢;exact h
 | d ::ds,xs,h=>by
   unfold ax at h ⊢
   obtain⟨x,r,e,h1,h2⟩:=h
   exact⟨x,r,e,aL.pre p h1,ax.pre p h2⟩
end
structure PW (ρ:P3) (H:Hp) (ρ':P3) (H':Hp):Prop where
 aZ:c_ ρ.b H ρ'.b H'
 ext:∀(k:Nat) (a:Addr),ρ.r[k]? =some a→ρ'.r[k]? =some a
theorem Pre.pw{ρ ρ':P3}{H H':Hp}(p:Pre ρ H ρ' H'):PW ρ H ρ' H':=⟨p.aZ,p.ext⟩
theorem PW.trans{ρ ρ' ρ'':P3}{H H' H'':Hp}(a:PW ρ H ρ' H')(b:PW ρ' H' ρ'' H''):PW ρ H ρ'' H'':=⟨a.aZ.trans b.aZ,fun k x h=>b.ext k x (a.ext k x h)⟩
mutual
theorem aL.pw{K:PySem.W.Frag}{ρ ρ':P3}{H H':Hp}(p:PW ρ H ρ' H'):∀{d:V3} {v:V},aL K ρ H d v→aL K ρ' H' d v
 | .d x,v,h=>by unfold aL at h ⊢;exact h.aZ p.aZ
 | .loc k,v,h=>by unfold aL at h ⊢;obtain⟨a,h1,h2⟩:=h;exact⟨a,p.ext k a h1,h2⟩
 | .lst vs,v,h=>by unfold aL at h ⊢;obtain⟨a,xs,e,l,r⟩:=h;exact⟨a,xs,e,l.aZ p.aZ,ax.pw p r⟩
 | .tup vs,v,h=>by unfold aL at h ⊢;obtain⟨a,xs,e,l,r⟩:=h;exact⟨a,xs,e,qO.aZ p.aZ l,ax.pw p r⟩
theorem ax.pw{K:PySem.W.Frag}{ρ ρ':P3}{H H':Hp}(p:PW ρ H ρ' H'):∀{ds:List V3} {xs:List V},ax K ρ H ds xs→ax K ρ' H' ds xs
 | [],_,h=>by unfold ax at h ⊢;exact h
 | d ::ds,xs,h=>by
   unfold ax at h ⊢
   obtain⟨x,r,e,h1,h2⟩:=h
   exact⟨x,r,e,aL.pw p h1,ax.pw p h2⟩
end
theorem ax.nil{K:PySem.W.Frag}{ρ:P3}{H:Hp}:ax K ρ H [] []:=by unfold ax;rfl
theorem ax.cons{K:PySem.W.Frag}{ρ:P3}{H:Hp}{d:V3}{ds:List V3}{x:V}{xs:List V}(h:aL K ρ H d x)(t:ax K ρ H ds xs):ax K ρ H (d ::ds) (x ::xs):=by
 unfold ax;exact⟨x,xs,rfl,h,t⟩
theorem ax.bA{K:PySem.W.Frag}{ρ:P3}{H:Hp}{d:V3}{ds:List V3}{xs:List V}(h:ax K ρ H (d ::ds) xs):∃x r,xs=x ::r∧aL K ρ H d x∧ax K ρ H ds r:=by
 unfold ax at h;exact h
theorem ax.length{K:PySem.W.Frag}{ρ:P3}{H:Hp}:∀{ds:List V3} {xs:List V},ax K ρ H ds xs→ds.length=xs.length
 | [],_,h=>by unfold ax at h;rw [h];rfl
 | d ::ds,xs,h=>by
   obtain⟨x,r,rfl,_,h2⟩:=h.bA
   simp [h2.length]
theorem ax.of{K:PySem.W.Frag}{ρ:P3}{H:Hp}:∀{ds:List D} {xs:List V},ay K ρ.b H ds xs→ax K ρ H (ds.map .d) xs
 | [],_,h=>by unfold ay at h;subst h;exact ax.nil
 | d ::ds,xs,h=>by
   obtain⟨x,r,rfl,h1,h2⟩:=h.bA
   exact ax.cons (by unfold aL;exact h1) (ax.of h2)
theorem ax.to{K:PySem.W.Frag}{ρ:P3}{H:Hp}:∀{ds:List D} {xs:List V},ax K ρ H (ds.map .d) xs→ay K ρ.b H ds xs
 | [],_,h=>by unfold ax at h;subst h;exact ay.nil
 | d ::ds,xs,h=>by
   obtain⟨x,r,rfl,h1,h2⟩:=ax.bA h
   unfold aL at h1
   exact ay.cons h1 (ax.to h2)
noncomputable def AN(K:PySem.W.Frag)(cl:Nat→Addr)(ρ:P3)(H:Hp):SO→Option HO→Prop
 | .lst ds,h=>∃xs,h=some (.lst xs)∧ay K ρ.b H ds xs
 | .dct kvs,h=>∃ys,h=some (.dK ys)∧ys.map (·.1)=kvs.map (·.1)∧ay K ρ.b H (kvs.map (·.2)) (ys.map (·.2))
 | .ins c fs,h=>∃dx ys,h=some (.ins (cl c) dx ys)∧ys.map (·.1)=fs.map (·.1)∧ax K ρ H (fs.map (·.2)) (ys.map (·.2))
 | .gq,h=>∃u,h=some u
theorem AN.pre{K:PySem.W.Frag}{cl:Nat→Addr}{ρ ρ':P3}{H H':Hp}(p:Pre ρ H ρ' H'){o:SO}{h:Option HO}(r:AN K cl ρ H o h):AN K cl ρ' H' o h:=by
 cases o with
 | lst ds=>obtain⟨xs,e,q⟩:=r;exact⟨xs,e,q.aZ p.aZ⟩
 | dct kvs=>obtain⟨ys,e,e2,q⟩:=r;exact⟨ys,e,e2,q.aZ p.aZ⟩
 | ins c fs=>obtain⟨dx,ys,e,e2,q⟩:=r;exact⟨dx,ys,e,e2,q.pre p⟩
 | gq=>exact r
theorem AN.pw{K:PySem.W.Frag}{cl:Nat→Addr}{ρ ρ':P3}{H H':Hp}(p:PW ρ H ρ' H'){o:SO}{h:Option HO}(r:AN K cl ρ H o h):AN K cl ρ' H' o h:=by
 cases o with
 | lst ds=>obtain⟨xs,e,q⟩:=r;exact⟨xs,e,q.aZ p.aZ⟩
 | dct kvs=>obtain⟨ys,e,e2,q⟩:=r;exact⟨ys,e,e2,q.aZ p.aZ⟩
 | ins c fs=>obtain⟨dx,ys,e,e2,q⟩:=r;exact⟨dx,ys,e,e2,q.pw p⟩
 | gq=>exact r
theorem AN.some{K:PySem.W.Frag}{cl:Nat→Addr}{ρ:P3}{H:Hp}{o:SO}{h:Option HO}(r:AN K cl ρ H o h):∃u,h=some u:=by
 cases o with
 | lst ds=>obtain⟨xs,e,q⟩:=r;exact⟨_,e⟩
 | dct kvs=>obtain⟨ys,e,e2,q⟩:=r;exact⟨_,e⟩
 | ins c fs=>obtain⟨dx,ys,e,e2,q⟩:=r;exact⟨_,e⟩
 | gq=>exact r
structure SW (K:PySem.W.Frag) (cl:Nat→Addr) (ρ:P3) (H:Hp) (S:aF):Prop where
 len:ρ.r.length=S.length
 nd:∀(i j:Nat) (a:Addr),ρ.r[i]? =some a→ρ.r[j]? =some a→i=j
 ob:∀(k:Nat) (a:Addr) (o:SO),ρ.r[k]? =some a→S[k]? =some o→AN K cl ρ H o (H a)
 zb:∀b∈ρ.z,(∃xs,H b=some (.lst xs))∧b ∉ ρ.r
 fz:∀(k:Nat) (a:Addr),ρ.r[k]? =some a→S[k]?≠some .gq→a ∉ ρ.f
 ff:∀a∈ρ.f,∃o,H a=some o
 fi:∀(k:Nat) (a:Addr),ρ.r[k]? =some a→S[k]? =some .gq→a∈ρ.f
theorem SW.rs{K:PySem.W.Frag}{cl:Nat→Addr}{ρ:P3}{H:Hp}{S:aF}(w:SW K cl ρ H S):∀a∈ρ.r,∃o,H a=some o:=fun a z=>by
 obtain⟨k,hk⟩:=List.getElem?_of_mem z
 have hl:=(List.getElem?_eq_some_iff.mp hk).1
 exact(w.ob k a _ hk (List.getElem?_eq_getElem (by rw[←w.len];exact hl))).some
theorem SW.bs{K:PySem.W.Frag}{cl:Nat→Addr}{ρ:P3}{H:Hp}{S:aF}(w:SW K cl ρ H S):∀a∈ρ.b,∃o,H a=some o:=fun a ha=>by
 rcases P3.dv.mp ha with z | z
 ·exact w.rs a z.1
 ·obtain⟨xs,h⟩:=(w.zb a z).1
  exact⟨_,h⟩
theorem SW.same{K:PySem.W.Frag}{cl:Nat→Addr}{ρ:P3}{H H':Hp}{S:aF}(w:SW K cl ρ H S)(s:aK H H'):SW K cl ρ H' S:=
 ⟨w.len,w.nd,fun k a o h1 h2=>by
   have r:=w.ob k a o h1 h2
   obtain⟨u,hu⟩:=r.some
   rw[s a u hu,←hu]
   exact r.pre (Pre.same s),fun b hb=>let⟨⟨o,ho⟩,n⟩:=w.zb b hb;⟨⟨o,s b _ ho⟩,n⟩,w.fz,fun a ha=>let⟨o,ho⟩:=w.ff a ha;⟨o,s a o ho⟩,w.fi⟩
theorem P3.mem_push{ρ:P3}{a b:Addr}(h:b∈(ρ.push a).b):b∈ρ.b∨b=a:=by
 rcases P3.dv.mp h with⟨z,n⟩ | z
 ·rcases List.mem_append.mp z with y | y
  ·exact .inl (P3.dv.mpr (.inl ⟨y,n⟩))
  ·exact .inr (List.mem_singleton.mp y)
 ·exact .inl (P3.dv.mpr (.inr z))
theorem SW.new{K:PySem.W.Frag}{cl:Nat→Addr}{ρ:P3}{H H':Hp}{S:aF}(w:SW K cl ρ H S){a:Addr}{o:SO}(s:aK H H')(n:H a=none)(r:AN K cl (ρ.push a) H' o (H' a))(hne:o≠SO.gq:=by intro h;cases h) :
 SW K cl (ρ.push a) H' (S++[o])∧Pre ρ H (ρ.push a) H':=by
 have na:a ∉ ρ.b:=fun ha=>by obtain⟨o,ho⟩:=w.bs a ha;rw [n] at ho;cases ho
 have nr:a ∉ ρ.r:=fun ha=>by obtain⟨o,ho⟩:=w.rs a ha;rw [n] at ho;cases ho
 have nf:a ∉ ρ.f:=fun ha=>by obtain⟨o,ho⟩:=w.ff a ha;rw [n] at ho;cases ho
 have p:Pre ρ H (ρ.push a) H':=⟨fun b u e nb=>⟨s b u e,fun hb=>by
  rcases P3.mem_push hb with z | z
  ·exact nb z
  ·subst z;rw [n] at e;cases e⟩,rfl,fun b o _ h=>s b o h,fun k x hx=>by
   show(ρ.r++[a])[k]? =_
   rw[List.getElem?_append_left (List.getElem?_eq_some_iff.mp hx).1];exact hx⟩
 have last:∀(i:Nat) (b:Addr),(ρ.push a).r[i]? =some b→(i < ρ.r.length∧ρ.r[i]? =some b)∨(i=ρ.r.length∧b=a):=fun i b h=>by
  have h:(ρ.r++[a])[i]? =some b:=h
  by_cases q:i < ρ.r.length
  ·rw[List.getElem?_append_left q] at h;exact .inl ⟨q,h⟩
  ·rw[List.getElem?_append_right (by omega)] at h
   have h0:i - ρ.r.length=0:=by
    have:=(List.getElem?_eq_some_iff.mp h).1
    simp at this;omega
   rw[h0] at h
   cases h
   exact .inr ⟨by omega,rfl⟩
 refine⟨⟨by show(ρ.r++[a]).length=_;rw [List.length_append,List.length_append,w.len];rfl,fun i j b hi hj=>?_,fun k b u hk hu=>?_,fun b hb=>?_,fun k b hk hu=>?_,fun b hb=>?_,fun k b hk hu=>?_⟩,p⟩
 ·rcases last i b hi with⟨q1,q2⟩ | ⟨q1,rfl⟩
  ·rcases last j b hj with⟨z1,z2⟩ | ⟨z1,rfl⟩
   ·exact w.nd i j b q2 z2
   ·exact absurd (List.mem_of_getElem? q2) nr
  ·rcases last j b hj with⟨z1,z2⟩ | ⟨z1,z3⟩
   ·exact absurd (List.mem_of_getElem? z2) nr
   ·omega
 ·rcases last k b hk with⟨q1,q2⟩ | ⟨q1,rfl⟩
  ·rw[List.getElem?_append_left (by rw[←w.len];exact q1)] at hu
   have r0:=w.ob k b u q2 hu
   obtain⟨x,hx⟩:=r0.some
   rw[s b x hx,←hx]
   exact r0.pre p
  ·rw[List.getElem?_append_right (by rw[←w.len];omega),q1,w.len,Nat.sub_self] at hu
   cases hu
   exact r
 ·obtain⟨⟨o,ho⟩,nb⟩:=w.zb b hb
  refine⟨⟨o,s b _ ho⟩,fun h=>?_⟩
  rcases List.mem_append.mp h with y | y
  ·exact nb y
  ·rw[List.mem_singleton] at y;subst y;rw [n] at ho;cases ho
 ·rcases last k b hk with⟨q1,q2⟩ | ⟨q1,rfl⟩
  ·rw[List.getElem?_append_left (by rw[←w.len];exact q1)] at hu
   exact w.fz k b q2 hu
  ·exact nf
 ·obtain⟨o,ho⟩:=w.ff b hb
  exact⟨o,s b o ho⟩
 ·rcases last k b hk with⟨q1,q2⟩ | ⟨q1,rfl⟩
  ·rw[List.getElem?_append_left (by rw[←w.len];exact q1)] at hu
   exact w.fi k b q2 hu
  ·rw[List.getElem?_append_right (by rw[←w.len];omega),q1,w.len,Nat.sub_self] at hu
   cases hu
   exact absurd rfl hne
theorem SW.put{K:PySem.W.Frag}{cl:Nat→Addr}{ρ:P3}{H:Hp}{S:aF}(w:SW K cl ρ H S){k:Nat}{a:Addr}{o:SO}{u:HO}(hk:ρ.r[k]? =some a)(hf:a ∉ ρ.f)(r:AN K cl ρ H o (some u))(hne:o≠SO.gq:=by intro h;cases h) :
 SW K cl ρ (upd H a u) (S.set k o)∧Pre ρ H ρ (upd H a u):=by
 have ha:a∈ρ.r:=List.mem_of_getElem? hk
 have hb:a∈ρ.b:=P3.dv.mpr (.inl ⟨ha,hf⟩)
 have nz:∀b∈ρ.z,b≠a:=fun b hb z=>(w.zb b hb).2 (by rw[z];exact ha)
 have p:Pre ρ H ρ (upd H a u):=⟨fun b x e nb=>⟨by rw[aT (fun(z:b=a)=>nb (by rw[z];exact hb))];exact e,nb⟩,rfl,fun b o hb h=>by rw[aT (nz b hb)];exact h,fun _ _ h=>h⟩
 have hl:k < S.length:=by rw[←w.len];exact(List.getElem?_eq_some_iff.mp hk).1
 refine⟨⟨by rw[List.length_set];exact w.len,w.nd,fun j b x hj hx=>?_,fun b hb=>?_,fun j b hj hx=>?_,fun b hb=>?_,fun j b hj hx=>?_⟩,p⟩
 ·by_cases q:k=j
  ·subst q
   rw[hk] at hj;cases hj
   rw[List.getElem?_set_self hl] at hx;cases hx
   rw[aN]
   exact r.pre p
  ·rw[List.getElem?_set_ne q] at hx
   have ne:b≠a:=fun z=>by subst z;exact q (w.nd k j b hk hj)
   rw[aT ne]
   exact(w.ob j b x hj hx).pre p
 ·obtain⟨⟨o,ho⟩,nb⟩:=w.zb b hb
  exact⟨⟨o,by rw[aT (nz b hb)];exact ho⟩,nb⟩
 ·by_cases q:k=j
  ·subst q
   rw[hk] at hj;cases hj
   exact hf
  ·rw[List.getElem?_set_ne q] at hx
   exact w.fz j b hj hx
 ·obtain⟨o,ho⟩:=w.ff b hb
  exact⟨o,by rw[aT (fun z=>hf (by rw[←z];exact hb))];exact ho⟩
 ·by_cases q:k=j
  ·subst q
   rw[List.getElem?_set_self hl] at hx;cases hx
   exact absurd rfl hne
  ·rw[List.getElem?_set_ne q] at hx
   exact w.fi j b hj hx
theorem SW.gq{K:PySem.W.Frag}{cl:Nat→Addr}{ρ:P3}{H:Hp}{S:aF}(w:SW K cl ρ H S){k:Nat}{a:Addr}{ds:List D}(hk:ρ.r[k]? =some a)(hS:S[k]? =some (.lst ds)) :
 SW K cl ⟨ρ.r,ρ.z,a ::ρ.f⟩ H (S.set k .gq)∧Pre ρ H ⟨ρ.r,ρ.z,a ::ρ.f⟩ H∧Rep K (⟨ρ.r,ρ.z,a ::ρ.f⟩:P3).b H (.lst ds) (.ref a):=by
 have hl:k < S.length:=by rw[←w.len];exact(List.getElem?_eq_some_iff.mp hk).1
 have sub:∀b,b∈(⟨ρ.r,ρ.z,a ::ρ.f⟩:P3).b→b∈ρ.b:=fun b hb=>by
  rcases P3.dv.mp hb with⟨z,n⟩ | z
  ·exact P3.dv.mpr (.inl ⟨z,fun h=>n (List.mem_cons_of_mem _ h)⟩)
  ·exact P3.dv.mpr (.inr z)
 have p:Pre ρ H ⟨ρ.r,ρ.z,a ::ρ.f⟩ H:=⟨fun b o e nb=>⟨e,fun hb=>nb (sub b hb)⟩,rfl,fun _ _ _ h=>h,fun _ _ h=>h⟩
 obtain⟨xs,e1,r1⟩:=w.ob k a _ hk hS
 refine⟨⟨by rw[List.length_set];exact w.len,w.nd,fun j b x hj hx=>?_,w.zb,fun j b hj hx=>?_,fun b hb=>?_,fun j b hj hx=>?_⟩,p,?_⟩
 ·by_cases q:k=j
  ·subst q
   rw[List.getElem?_set_self hl] at hx;cases hx
   rw[hk] at hj;cases hj
   exact⟨_,e1⟩
  ·rw[List.getElem?_set_ne q] at hx
   exact(w.ob j b x hj hx).pre p
 ·by_cases q:k=j
  ·subst q
   rw[List.getElem?_set_self hl] at hx
   exact absurd rfl hx
  ·rw[List.getElem?_set_ne q] at hx
   intro h
   rcases List.mem_cons.mp h with z | z
   ·subst z;exact q (w.nd k j b hk hj)
   ·exact w.fz j b hj hx z
 ·rcases List.mem_cons.mp hb with z | z
  ·subst z;exact⟨_,e1⟩
  ·exact w.ff b z
 ·by_cases q:k=j
  ·subst q
   rw[hk] at hj;cases hj
   exact List.mem_cons_self
  ·rw[List.getElem?_set_ne q] at hx
   exact List.mem_cons_of_mem _ (w.fi j b hj hx)
 ·refine Rep.lst.mpr ⟨a,xs,rfl, .inl ⟨fun hb=>?_, .inl e1⟩,r1.aZ p.aZ⟩
  rcases P3.dv.mp hb with⟨_,n⟩ | z
  ·exact n List.mem_cons_self
  ·exact(w.zb a z).2 (List.mem_of_getElem? hk)
mutual
noncomputable def uF:D→Bool
 | .lst _=>false
 | .dct _ _=>false
 | .tup ds=>tR ds
 | _=>true
noncomputable def tR:List D→Bool
 | []=>true
 | d ::ds=>uF d && tR ds
end
mutual
theorem Rep.tM{K:PySem.W.Frag}{B:List Addr}{H:Hp}(hB:∀b∈B,∀xs,¬Rd H b (.tup xs)):∀{d:D} {v:V},uF d=true→Rep K [] H d v→Rep K B H d v
 | .bX,v,_,r=>Rep.bX.mpr (Rep.bX.mp r)
 | .bl _,v,_,r=>Rep.bl.mpr (Rep.bl.mp r)
 | .int _,v,_,r=>Rep.int.mpr (Rep.int.mp r)
 | .str _,v,_,r=>Rep.str.mpr (Rep.str.mp r)
 | .lst _,v,h,_=>by unfold uF at h;cases h
 | .dct _ _,v,h,_=>by unfold uF at h;cases h
 | .tup ds,v,h,r=>by
   unfold uF at h
   obtain⟨a,xs,rfl,l,rs⟩:=Rep.tup.mp r
   exact Rep.tup.mpr ⟨a,xs,rfl,l.elim (fun z=> .inl ⟨fun hb=>hB a hb xs z.2,z.2⟩) .inr,ay.tM hB h rs⟩
theorem ay.tM{K:PySem.W.Frag}{B:List Addr}{H:Hp}(hB:∀b∈B,∀xs,¬Rd H b (.tup xs)):∀{ds:List D} {vs:List V},tR ds=true→ay K [] H ds vs→ay K B H ds vs
 | [],_,_,r=>by unfold ay at r;subst r;exact ay.nil
 | d ::ds,vs,h,r=>by
   unfold tR at h
   obtain⟨h1,h2⟩:=Bool.and_eq_true_iff.mp h
   obtain⟨x,xs,rfl,r1,r2⟩:=r.bA
   exact ay.cons (Rep.tM hB h1 r1) (ay.tM hB h2 r2)
end
theorem SW.nt{K:PySem.W.Frag}{cl:Nat→Addr}{ρ:P3}{H:Hp}{S:aF}(w:SW K cl ρ H S):∀b∈ρ.b,∀xs,¬Rd H b (.tup xs):=fun b hb xs h=>by
 have key:∀o,H b=some o→(∀xs,o≠ .tup xs)→(∀ob xs,o≠ .gq ob (.tup xs))→False:=fun o e h1 h2=>by
  rcases h with z | ⟨ob,z⟩
  ·rw[e] at z;cases z;exact h1 _ rfl
  ·rw[e] at z;cases z;exact h2 _ _ rfl
 rcases P3.dv.mp hb with⟨z,n⟩ | z
 ·obtain⟨k,hk⟩:=List.getElem?_of_mem z
  have hl:=(List.getElem?_eq_some_iff.mp hk).1
  have hS:S[k]? =some (S[k]'(by rw[←w.len];exact hl)):=List.getElem?_eq_getElem (by rw[←w.len];exact hl)
  have r:=w.ob k b _ hk hS
  generalize S[k]'(by rw[←w.len];exact hl)=o at r hS
  cases o with
  | lst ds=>obtain⟨ys,e,_⟩:=r;exact key _ e (fun _ q=>by cases q) (fun _ _ q=>by cases q)
  | dct kvs=>obtain⟨ys,e,_⟩:=r;exact key _ e (fun _ q=>by cases q) (fun _ _ q=>by cases q)
  | ins c fs=>obtain⟨dx,ys,e,_⟩:=r;exact key _ e (fun _ q=>by cases q) (fun _ _ q=>by cases q)
  | gq=>exact n (w.fi k b hk hS)
 ·obtain⟨⟨ys,e⟩,_⟩:=w.zb b z
  exact key _ e (fun _ q=>by cases q) (fun _ _ q=>by cases q)
noncomputable abbrev DE:=List (Option V3)
structure dW (K:PySem.W.Frag) (cl:Nat→Addr) (ρ:P3) (H:Hp) (S:aF) (σ:L2.St) (δ:DE):Prop where
 len:δ.length=σ.length
 sw:SW K cl ρ H S
 val:∀(i:Nat) (d:V3),δ[i]? =some (some d)→∃v,σ[i]? =some (some v)∧aL K ρ H d v
theorem dW.to{K:PySem.W.Frag}{cl:Nat→Addr}{ρ ρ':P3}{H H':Hp}{S S':aF}{σ:L2.St}{δ:DE}(E:dW K cl ρ H S σ δ)(p:Pre ρ H ρ' H')(w:SW K cl ρ' H' S'):dW K cl ρ' H' S' σ δ:=
 ⟨E.len,w,fun i d e=>let⟨v,h1,h2⟩:=E.val i d e;⟨v,h1,h2.pre p⟩⟩
theorem dW.set{K:PySem.W.Frag}{cl:Nat→Addr}{ρ:P3}{H:Hp}{S:aF}{σ:L2.St}{δ:DE}(E:dW K cl ρ H S σ δ){i:Nat}{d:V3}{v:V}(hi:i < σ.length)(r:aL K ρ H d v):dW K cl ρ H S (σ.set i (some v)) (δ.set i (some d)):=
 ⟨by rw[List.length_set,List.length_set];exact E.len,E.sw,fun j d' e=>by
   by_cases h:i=j
   ·subst h
    rw[List.getElem?_set_self (by rw[E.len];exact hi)] at e
    cases e
    exact⟨v,List.getElem?_set_self hi,r⟩
   ·rw[List.getElem?_set_ne h] at e ⊢
    exact E.val j d' e⟩
noncomputable def down(δ:DE):aq:=δ.map fun x=>match x with | some (.d d)=> .val d | _=> .un
theorem dW.down{K:PySem.W.Frag}{cl:Nat→Addr}{ρ:P3}{H:Hp}{S:aF}{σ:L2.St}{δ:DE}(E:dW K cl ρ H S σ δ):dH K [] ρ.b H σ (down δ) where
 len:=by unfold L3.down;rw [List.length_map];exact E.len
 bs:=E.sw.bs
 zb:=fun a ha=>by cases ha
 val:=fun i d e=>by
  unfold L3.down at e
  rw[List.getElem?_map] at e
  cases q:δ[i]? with
  | none=>rw [q] at e;cases e
  | some x=>
    rw[q] at e
    match x,e,q with
    | some (.d y),e,q=>
      cases e
      obtain⟨v,h1,h2⟩:=E.val i _ q
      unfold aL at h2
      exact⟨v,h1,h2⟩
    | some (.loc k),e,q=>cases e
    | some (.lst k),e,q=>cases e
    | some (.tup k),e,q=>cases e
    | none,e,q=>cases e
 bld:=fun i ds e=>by
  unfold L3.down at e
  rw[List.getElem?_map] at e
  cases q:δ[i]? with
  | none=>rw [q] at e;cases e
  | some x=>
    rw[q] at e
    match x,e with
    | some (.d y),e=>cases e
    | some (.loc k),e=>cases e
    | some (.lst k),e=>cases e
    | some (.tup k),e=>cases e
    | none,e=>cases e
 dis:=fun i j a ds es e=>by
  unfold L3.down at e
  rw[List.getElem?_map] at e
  cases q:δ[i]? with
  | none=>rw [q] at e;cases e
  | some x=>
    rw[q] at e
    match x,e with
    | some (.d y),e=>cases e
    | some (.loc k),e=>cases e
    | some (.lst k),e=>cases e
    | some (.tup k),e=>cases e
    | none,e=>cases e
mutual
noncomputable def res(S:aF):V3→Option D
 | .d x=>some x
 | .loc k=>(match S[k]? with | some (.lst ds)=>some (.lst ds) | _=>none)
 | .lst vs=>(k9 S vs).map D.lst
 | .tup vs=>(k9 S vs).map D.tup
noncomputable def k9(S:aF):List V3→Option (List D)
 | []=>some []
 | v ::vs=>(res S v).bind fun d=>(k9 S vs).map (d ::·)
end
noncomputable def cT(S:aF)(δ:DE):aq:=δ.map fun x=>match x with | some v=>(match res S v with | some d=> .val d | none=> .un) | none=> .un
theorem kB{α β:Type}{o:Option α}{f:α→β}{b:β}(h:o.map f=some b):∃a,o=some a∧f a=b:=by
 cases o with
 | none=>cases h
 | some a=>cases h;exact⟨a,rfl,rfl⟩
theorem wC{α β:Type}{o:Option α}{f:α→Option β}{b:β}(h:o.bind f=some b):∃a,o=some a∧f a=some b:=by
 cases o with
 | none=>cases h
 | some a=>exact⟨a,rfl,h⟩
mutual
noncomputable def eQ(n:Nat):V3→Bool
 | .d _=>true
 | .loc k=>decide (n≤k)
 | .lst vs=>mv n vs
 | .tup vs=>mv n vs
noncomputable def mv(n:Nat):List V3→Bool
 | []=>true
 | v ::vs=>eQ n v && mv n vs
end
mutual
theorem aL.resB{K:PySem.W.Frag}{cl:Nat→Addr}{ρ:P3}{H:Hp}{S:aF}{B':List Addr}{n:Nat}(w:SW K cl ρ H S)(p:c_ ρ.b H B' H)(hn:∀(k:Nat) (a:Addr),n≤k→ρ.r[k]? =some a→a ∉ B'):∀{v:V3} {d:D} {x:V},eQ n v=true→res S v=some d→aL K ρ H v x→Rep K B' H d x
 | .d y,d,x,_,h,r=>by unfold L3.res at h;cases h;unfold aL at r;exact r.aZ p
 | .loc k,d,x,g,h,r=>by
   unfold L3.res at h
   unfold aL at r
   unfold eQ at g
   obtain⟨a,h1,rfl⟩:=r
   split at h
   ·rename_i ds e
    cases h
    obtain⟨xs,e2,q⟩:=w.ob k a _ h1 e
    unfold Rep
    exact⟨a,xs,rfl, .inl ⟨hn k a (of_decide_eq_true g) h1, .inl e2⟩,q.aZ p⟩
   ·cases h
 | .lst vs,d,x,g,h,r=>by
   unfold L3.res at h
   unfold eQ at g
   obtain⟨ds,e,rfl⟩:=kB h
   unfold aL at r
   obtain⟨a,xs,rfl,l,r⟩:=r
   unfold Rep
   exact⟨a,xs,rfl,l.aZ p,ax.resB w p hn g e r⟩
 | .tup vs,d,x,g,h,r=>by
   unfold L3.res at h
   unfold eQ at g
   obtain⟨ds,e,rfl⟩:=kB h
   unfold aL at r
   obtain⟨a,xs,rfl,l,r⟩:=r
   unfold Rep
   exact⟨a,xs,rfl,qO.aZ p l,ax.resB w p hn g e r⟩
theorem ax.resB{K:PySem.W.Frag}{cl:Nat→Addr}{ρ:P3}{H:Hp}{S:aF}{B':List Addr}{n:Nat}(w:SW K cl ρ H S)(p:c_ ρ.b H B' H)(hn:∀(k:Nat) (a:Addr),n≤k→ρ.r[k]? =some a→a ∉ B'):∀{vs:List V3} {ds:List D} {xs:List V},mv n vs=true→k9 S vs=some ds→ax K ρ H vs xs→ay K B' H ds xs
 | [],ds,xs,_,h,r=>by unfold k9 at h;cases h;unfold ax at r;subst r;exact ay.nil
 | v ::vs,ds,xs,g,h,r=>by
   unfold k9 at h
   unfold mv at g
   obtain⟨g1,g2⟩:=Bool.and_eq_true_iff.mp g
   obtain⟨d,e1,h2⟩:=wC h
   obtain⟨es,e2,rfl⟩:=kB h2
   obtain⟨y,ys,rfl,r1,r2⟩:=r.bA
   exact ay.cons (aL.resB w p hn g1 e1 r1) (ax.resB w p hn g2 e2 r2)
end
mutual
theorem qK:∀v:V3,eQ 0 v=true
 | .d _=>by unfold eQ;rfl
 | .loc k=>by unfold eQ;exact decide_eq_true (Nat.zero_le _)
 | .lst vs=>by unfold eQ;exact lq vs
 | .tup vs=>by unfold eQ;exact lq vs
theorem lq:∀vs:List V3,mv 0 vs=true
 | []=>by unfold mv;rfl
 | v ::vs=>by unfold mv;rw [qK v,lq vs];rfl
end
theorem aL.res{K:PySem.W.Frag}{cl:Nat→Addr}{ρ:P3}{H:Hp}{S:aF}(w:SW K cl ρ H S){v:V3}{d:D}{x:V}(h:res S v=some d)(r:aL K ρ H v x):Rep K [] H d x:=
 r.resB w (fun b o e _=>⟨e,by simp⟩) (n:=0) (fun _ _ _ _=>by simp) (qK v) h
theorem ni{S:aF}{δ:DE}{i:Nat}{y:Sl}(e:(cT S δ)[i]? =some y):(∃v d,δ[i]? =some (some v)∧res S v=some d∧y= .val d)∨y= .un:=by
 unfold cT at e
 rw[List.getElem?_map] at e
 cases q:δ[i]? with
 | none=>rw [q] at e;cases e
 | some x=>
   rw[q] at e
   cases x with
   | none=>cases e;exact .inr rfl
   | some v=>
     cases z:res S v with
     | none=>
       have e:some (match res S v with | some d=>Sl.val d | none=> .un)=some y:=e
       rw[z] at e;cases e;exact .inr rfl
     | some d=>
       have e:some (match res S v with | some d=>Sl.val d | none=> .un)=some y:=e
       rw[z] at e;cases e;exact .inl ⟨v,d,rfl,z,rfl⟩
theorem dW.cT{K:PySem.W.Frag}{cl:Nat→Addr}{ρ:P3}{H:Hp}{S:aF}{σ:L2.St}{δ:DE}(E:dW K cl ρ H S σ δ):dH K [] [] H σ (cT S δ) where
 len:=by unfold L3.cT;rw [List.length_map];exact E.len
 bs:=fun a ha=>by cases ha
 zb:=fun a ha=>by cases ha
 val:=fun i d e=>by
  rcases ni e with⟨v,d',h1,h2,h3⟩ | h
  ·cases h3
   obtain⟨x,q1,q2⟩:=E.val i v h1
   exact⟨x,q1,q2.res E.sw h2⟩
  ·cases h
 bld:=fun i ds e=>by
  rcases ni e with⟨v,d',h1,h2,h3⟩ | h
  ·cases h3
  ·cases h
 dis:=fun i j a ds es e=>by
  rcases ni e with⟨v,d',h1,h2,h3⟩ | h
  ·cases h3
  ·cases h
noncomputable abbrev FX:=DE→aF→R3 V3
noncomputable abbrev FB:=DE→aF→R3 Bool
noncomputable abbrev FA:=DE→aF→R3 (List V3)
noncomputable def tX(K:PySem.W.Frag)(cl:Nat→Addr)(f:FX):TE:=fun σ H Q=>∃ρ S δ v S',dW K cl ρ H S σ δ∧f δ S= .ok v S'∧∀u ρ' H',Pre ρ H ρ' H'→SW K cl ρ' H' S'→aL K ρ' H' v u→Q u H'
noncomputable def E6(K:PySem.W.Frag)(cl:Nat→Addr)(f:FB):TT:=fun σ H Q=>∃ρ S δ b S',dW K cl ρ H S σ δ∧f δ S= .ok b S'∧∀ρ' H',Pre ρ H ρ' H'→SW K cl ρ' H' S'→Q b H'
noncomputable def Kl(K:PySem.W.Frag)(cl:Nat→Addr)(f:FA):TA:=fun σ H Q=>∃ρ S δ vs S',dW K cl ρ H S σ δ∧f δ S= .ok vs S'∧∀us ρ' H',Pre ρ H ρ' H'→SW K cl ρ' H' S'→ax K ρ' H' vs us→Q us H'
structure PX (X:Cx) (cl:Nat→Addr) (e:Expr) (f:FX):Prop where
 go:PE X e (tX X.K cl f)
structure Bb (X:Cx) (cl:Nat→Addr) (e:Expr) (f:FB):Prop where
 go:PT X e (E6 X.K cl f)
structure BV (X:Cx) (cl:Nat→Addr) (es:List Expr) (f:FA):Prop where
 go:PA X es (Kl X.K cl f)
section
variable {X:Cx} {cl:Nat→Addr}
noncomputable def xP(f:FD):FX:=fun δ S=>(R3.of (f (down δ)) S).bind fun d S=> .ok (.d d) S
theorem ai{e:Expr}{f:FD}(h:QD X e f):PX X cl e (xP f):=⟨h.1.imp fun σ H Q ⟨ρ,S,δ,v,S',E,hf,q⟩=>by
 obtain⟨d,S1,h1,h2⟩:=R3.ab hf
 obtain⟨h3,e3⟩:=R3.of_ok h1
 cases h2
 subst e3
 exact⟨[],ρ.b,down δ,d,E.down,h3,fun v H' s r=>q v ρ H' (Pre.same s) (E.sw.same s) (by unfold aL;exact r)⟩⟩
noncomputable def xT(f:FD):FX:=fun δ S=>(R3.of (f (cT S δ)) S).bind fun d S=>R3.bt (uF d) (.ok (.d d) S)
theorem fU{e:Expr}{f:FD}(h:QD X e f):PX X cl e (xT f):=⟨h.1.imp fun σ H Q ⟨ρ,S,δ,v,S',E,hf,q⟩=>by
 obtain⟨d,S1,h1,h2⟩:=R3.ab hf
 obtain⟨h4,e3⟩:=R3.of_ok h1
 obtain⟨ha,h3⟩:=R3.aS h2
 cases h3
 subst e3
 exact⟨[],[],cT _ δ,d,E.cT,h4,fun v H' s r=>q v ρ H' (Pre.same s) (E.sw.same s) (by unfold aL;exact Rep.tM (E.sw.same s).nt ha r)⟩⟩
noncomputable def bP(f:aq→R Bool):FB:=fun δ S=>R3.of (f (down δ)) S
theorem eR{e:Expr}{f:aq→R Bool}(h:QB X e f):Bb X cl e (bP f):=⟨h.1.imp fun σ H Q ⟨ρ,S,δ,v,S',E,hf,q⟩=>by
 obtain⟨h1,e3⟩:=R3.of_ok hf
 subst e3
 exact⟨[],ρ.b,down δ,v,E.down,h1,fun H' s=>q ρ H' (Pre.same s) (E.sw.same s)⟩⟩
noncomputable def bT(f:aq→R Bool):FB:=fun δ S=>R3.of (f (cT S δ)) S
theorem BK{e:Expr}{f:aq→R Bool}(h:QB X e f):Bb X cl e (bT f):=⟨h.1.imp fun σ H Q ⟨ρ,S,δ,v,S',E,hf,q⟩=>by
 obtain⟨h1,e3⟩:=R3.of_ok hf
 subst e3
 exact⟨[],[],cT _ δ,v,E.cT,h1,fun H' s=>q ρ H' (Pre.same s) (E.sw.same s)⟩⟩
noncomputable def cj(i:Nat):FX:=fun δ S=>match δ[i]? with | some (some v)=> .ok v S | _=> .no
theorem bc(i:Nat){x:Str}{pos:Pos}(hN:X.N[i]? =some x:=by rfl)(hv:DV X.env.scope x:=by first | exact Or.inl rfl | exact Or.inr (Or.inl rfl) | exact Or.inr (Or.inr rfl))(hd:(x==("__debug__":Str))=false:=by decide)
 (hcd:(x==("__classdict__":Str))=false:=by decide):PX X cl (.Name x pos) (cj i):=⟨(sS hN hv hd hcd).imp fun σ H Q ⟨ρ,S,δ,v,S',E,hf,q⟩=>by
 unfold cj at hf
 split at hf
 ·rename_i d' e
  cases hf
  obtain⟨u,h1,h2⟩:=E.val i _ e
  exact⟨u,h1,q u ρ H (Pre.refl ρ H) E.sw h2⟩
 ·cases hf⟩
noncomputable def m4(f:aq→R (List D)):FX:=fun δ S=>(R3.of (f (down δ)) S).bind fun ds S=> .ok (.loc S.length) (S++[.lst ds])
theorem g7{e:Expr}{f:aq→R (List D)}(h:QN X e f):PX X cl e (m4 f):=⟨h.1.imp fun σ H Q ⟨ρ,S,δ,v,S',E,hf,q⟩=>by
 obtain⟨ds,S1,h1,h2⟩:=R3.ab hf
 obtain⟨h3,e3⟩:=R3.of_ok h1
 cases h2
 subst e3
 refine⟨[],ρ.b,down δ,ds,E.down,h3,fun a xs H' s n e r=>?_⟩
 have r':ay X.K (ρ.push a).b H' ds xs:=r.aZ fun b o e nb=>⟨e,fun hb=>nb (by
  rcases P3.mem_push hb with z | z
  ·exact List.mem_cons_of_mem _ z
  ·subst z;exact List.mem_cons_self)⟩
 obtain⟨w,p⟩:=E.sw.new (o:= .lst ds) s n ⟨xs,e,r'⟩
 exact q _ _ H' p w (by unfold aL;exact⟨a,by show(ρ.r++[a])[_]? =_;rw [←E.sw.len,List.getElem?_append_right (by omega),Nat.sub_self];rfl,rfl⟩)⟩
end
end L3
end
section
set_option maxRecDepth 100000
set_option maxHeartbeats 4000000
namespace L3
open PySem PySem.Spec PyProof.Rows L2
section
variable {X:Cx} {cl:Nat→Addr}
noncomputable def cN:FA:=fun _ S=> .ok [] S
noncomputable def aC(f:FX)(g:FA):FA:=fun δ S=>(f δ S).bind fun v S1=>(g δ S1).bind fun vs S2=> .ok (v ::vs) S2
theorem aR:BV X cl [] cN:=⟨f7.imp fun σ H Q ⟨ρ,S,δ,v,S',E,hf,q⟩=>by
 cases hf
 exact q [] ρ H (Pre.refl ρ H) E.sw ax.nil⟩
theorem ak{e:Expr}{es:List Expr}{f:FX}{g:FA}(h:PX X cl e f)(t:BV X cl es g)(hs:starEach (e ::es) X.env=(false,eval e X.env) ::starEach es X.env:=by rfl):BV X cl (e ::es) (aC f g):=
 ⟨(dz h.1 t.1 hs).imp fun σ H Q ⟨ρ,S,δ,v,S',E,hf,q⟩=>by
   obtain⟨v1,S1,h1,h2⟩:=R3.ab hf
   obtain⟨vs,S2,h3,h4⟩:=R3.ab h2
   cases h4
   exact⟨ρ,S,δ,v1,S1,E,h1,fun u ρ1 H1 p1 w1 r1=>⟨ρ1,S1,δ,vs,_,E.to p1 w1,h3,fun us ρ2 H2 p2 w2 r2=>q _ ρ2 H2 (p1.trans p2) w2 (ax.cons (r1.pre p2) r2)⟩⟩⟩
noncomputable def jm:List V3→Option (List D)
 | []=>some []
 | .d x ::r=>(jm r).map (x ::·)
 | _ ::_=>none
theorem gI:∀{vs:List V3} {ds:List D},jm vs=some ds→vs=ds.map .d
 | [],ds,h=>by cases h;rfl
 | .d x ::r,ds,h=>by
   cases e:jm r with
   | none=>have h:(jm r).map (x ::·)=some ds:=h;rw [e] at h;cases h
   | some es=>
     have h:(jm r).map (x ::·)=some ds:=h
     rw[e] at h
     cases h
     rw[gI e]
     rfl
 | .loc _ ::_,_,h=>by cases h
 | .lst _ ::_,_,h=>by cases h
 | .tup _ ::_,_,h=>by cases h
theorem qd:∀ds:List D,jm (ds.map .d)=some ds
 | []=>rfl
 | d ::ds=>by show(jm (ds.map .d)).map (d ::·)=_;rw [qd ds];rfl
noncomputable def ke(vs:List V3):V3:=match jm vs with | some ds=> .d (.tup ds) | none=> .tup vs
noncomputable def hJ(vs:List V3):V3:=match jm vs with | some ds=> .d (.lst ds) | none=> .lst vs
noncomputable def tE(g:FA):FX:=fun δ S=>(g δ S).bind fun vs S=>R3.bt (decide (vs.length≤sizeLine)) (.ok (ke vs) S)
theorem iF{ρ:P3}{H:Hp}{p:Addr}{o:HO}(hp:H p=none):Pre ρ H ρ (upd H p o):=Pre.same (aD hp)
theorem y6{K:PySem.W.Frag}{ρ:P3}{H:Hp}{vs:List V3}{xs:List V}{a:Addr}(l:qO K ρ.b H a xs)(r:ax K ρ H vs xs):aL K ρ H (ke vs) (.ref a):=by
 unfold ke
 split
 ·rename_i ds e
  rw[gI e] at r
  unfold aL Rep
  exact⟨a,xs,rfl,l,r.to⟩
 ·unfold aL
  exact⟨a,xs,rfl,l,r⟩
theorem rP{K:PySem.W.Frag}{ρ:P3}{H:Hp}{vs:List V3}{xs:List V}{a:Addr}(l:ql K ρ.b H a xs)(r:ax K ρ H vs xs):aL K ρ H (hJ vs) (.ref a):=by
 unfold hJ
 split
 ·rename_i ds e
  rw[gI e] at r
  unfold aL Rep
  exact⟨a,xs,rfl,l,r.to⟩
 ·unfold aL
  exact⟨a,xs,rfl,l,r⟩
theorem mU{es:List Expr}{g:FA}{x1 pos}(h:BV X cl es g):PX X cl (.Tuple es x1 pos) (tE g):=⟨(z9 h.1).imp fun σ H Q ⟨ρ,S,δ,v,S',E,hf,q⟩=>by
 obtain⟨vs,S1,h1,h2⟩:=R3.ab hf
 obtain⟨hl,h3⟩:=R3.aS h2
 cases h3
 refine⟨ρ,S,δ,vs,_,E,h1,fun us ρ1 H1 p1 w1 r1=>⟨by rw[←r1.length];exact of_decide_eq_true hl,fun p hp=>q _ ρ1 _ (p1.trans (iF hp)) (w1.same (aD hp)) ?_⟩⟩
 refine y6 (.inl ⟨fun ha=>?_, .inl aN⟩) (r1.pre (iF hp))
 obtain⟨o,ho⟩:=w1.bs p ha
 rw[hp] at ho;cases ho⟩
noncomputable def FP(g:FA):FX:=fun δ S=>(g δ S).bind fun vs S=>R3.bt (decide (vs.length≤sizeLine)) (.ok (hJ vs) S)
theorem FJ{es:List Expr}{g:FA}{pos}(h:BV X cl es g):PX X cl (.List es pos) (FP g):=⟨(Aq h.1).imp fun σ H Q ⟨ρ,S,δ,v,S',E,hf,q⟩=>by
 obtain⟨vs,S1,h1,h2⟩:=R3.ab hf
 obtain⟨hl,h3⟩:=R3.aS h2
 cases h3
 refine⟨ρ,S,δ,vs,_,E,h1,fun us ρ1 H1 p1 w1 r1=>⟨by rw[←r1.length];exact of_decide_eq_true hl,fun p hp=>q _ ρ1 _ (p1.trans (iF hp)) (w1.same (aD hp)) ?_⟩⟩
 refine rP (.inl ⟨fun ha=>?_, .inl aN⟩) (r1.pre (iF hp))
 obtain⟨o,ho⟩:=w1.bs p ha
 rw[hp] at ho;cases ho⟩
noncomputable def x2(g:D→D→R D)(fa fb:FX):FX:=fun δ S=>(fa δ S).bind fun a S1=>(fb δ S1).bind fun b S2=>match a,b with
 | .d x, .d y=>(R3.of (g x y) S2).bind fun d S=> .ok (.d d) S
 | _,_=> .no
theorem FY{K:PySem.W.Frag}{g:D→D→R D}{fa fb:FX}{σ:L2.St}{H:Hp}{Q:VK}(h:tX K cl (x2 g fa fb) σ H Q) :
 GL (fun x y H Q=>∃B da db d,(∀a∈B,∃o,H a=some o)∧Rep K B H da x∧Rep K B H db y∧g da db= .ok d∧∀z H',aK H H'→Rep K B H' d z→Q z H') (tX K cl fa) (tX K cl fb) σ H Q:=by
 obtain⟨ρ,S,δ,v,S',E,hf,q⟩:=h
 obtain⟨a,S1,h1,h2⟩:=R3.ab hf
 obtain⟨b,S2,h3,h4⟩:=R3.ab h2
 match a,b,h1,h3,h4 with
 | .d x, .d y,h1,h3,h4=>
   obtain⟨d,S3,h5,h6⟩:=R3.ab h4
   obtain⟨h7,e⟩:=R3.of_ok h5
   cases h6
   subst e
   refine⟨ρ,S,δ, .d x,S1,E,h1,fun u1 ρ1 H1 p1 w1 r1=>⟨ρ1,S1,δ, .d y,_,E.to p1 w1,h3,fun u2 ρ2 H2 p2 w2 r2=>?_⟩⟩
   have r1':=r1.pre p2
   unfold aL at r1' r2
   exact⟨ρ2.b,x,y,d,w2.bs,r1',r2,h7,fun z H' s r=>q z ρ2 H' (p1.trans (p2.trans (Pre.same s))) (w2.same s) (by unfold aL;exact r)⟩
 | .d x, .loc _,_,_,h4=>cases h4
 | .d x, .lst _,_,_,h4=>cases h4
 | .d x, .tup _,_,_,h4=>cases h4
 | .loc _,_,_,_,h4=>cases h4
 | .lst _,_,_,_,h4=>cases h4
 | .tup _,_,_,_,h4=>cases h4
theorem rM{op:Operator}{g:D→D→R D}{a b:Expr}{fa fb:FX}{pos:Pos}(ho:iT X (binaryOp op) g)(ha:PX X cl a fa)(hb:PX X cl b fb):PX X cl (.BinOp a op b pos) (x2 g fa fb):=
 ⟨(Ap ho.r ha.1 hb.1).imp fun σ H Q h=>FY h⟩
theorem AJ{op:CmpOp}{g:D→D→R D}{a b:Expr}{fa fb:FX}{pos:Pos}(ho:iT X (compareOp op) g)(ha:PX X cl a fa)(hb:PX X cl b fb)(hm:behindInMarks op b=false):PX X cl (.Compare a [op] [b] pos) (x2 g fa fb):=
 ⟨(xD ho.r ha.1 hb.1 hm).imp fun σ H Q h=>FY h⟩
noncomputable def Hy(g:D→D→R D)(fa fb:FX):FB:=fun δ S=>(x2 g fa fb δ S).bind fun v S=>match v with | .d (.bl b)=> .ok b S | _=> .no
theorem sf{op:CmpOp}{g:D→D→R D}{a b:Expr}{fa fb:FX}{pos:Pos}(ho:iT X (compareOp op) g)(ha:PX X cl a fa)(hb:PX X cl b fb)(hm:behindInMarks op b=false):Bb X cl (.Compare a [op] [b] pos) (Hy g fa fb):=
 ⟨(x9 ho.r ha.1 hb.1 hm).imp fun σ H Q ⟨ρ,S,δ,b,S',E,hf,q⟩=>by
   obtain⟨v,S1,h1,h2⟩:=R3.ab hf
   have hv:v= .d (.bl b)∧S1=S':=by
    match v,h2 with
    | .d (.bl k),h2=>cases h2;exact⟨rfl,rfl⟩
    | .d .bX,h2=>cases h2
    | .d (.int _),h2=>cases h2
    | .d (.str _),h2=>cases h2
    | .d (.lst _),h2=>cases h2
    | .d (.tup _),h2=>cases h2
    | .d (.dct _ _),h2=>cases h2
    | .loc _,h2=>cases h2
    | .lst _,h2=>cases h2
    | .tup _,h2=>cases h2
   obtain⟨rfl,rfl⟩:=hv
   exact FY (g:=g) (Q:=fun x H'=>∃k,x= .bl k∧Q k H') ⟨ρ,S,δ,_,_,E,h1,fun u ρ' H' p w r=>⟨b,by unfold aL Rep at r;exact r,q ρ' H' p w⟩⟩⟩
inductive Ou where
 | nx (δ:DE) | rt (v:V3)
noncomputable abbrev FZ:=DE→aF→R3 Ou
noncomputable def Dr(K:PySem.W.Frag)(cl:Nat→Addr)(ρ:P3)(H:Hp)(D:Ends)(S':aF):Ou→Prop
 | .nx δ'=>∀σ' ρ' H',Pre ρ H ρ' H'→dW K cl ρ' H' S' σ' δ'→D.nx σ' H'
 | .rt v=>∀u ρ' H',Pre ρ H ρ' H'→SW K cl ρ' H' S'→aL K ρ' H' v u→D.rt u H'
theorem Dr.pre{K:PySem.W.Frag}{ρ ρ1:P3}{H H1:Hp}{D:Ends}{S':aF}{o:Ou}(q:Dr K cl ρ H D S' o)(p:Pre ρ H ρ1 H1):Dr K cl ρ1 H1 D S' o:=by
 cases o with
 | nx δ'=>exact fun σ' ρ' H' p' E'=>q σ' ρ' H' (p.trans p') E'
 | rt d=>exact fun v ρ' H' p' w r=>q v ρ' H' (p.trans p') w r
noncomputable def sX(K:PySem.W.Frag)(cl:Nat→Addr)(F:FZ):TS:=fun D σ H=>∃ρ S δ o S',dW K cl ρ H S σ δ∧F δ S= .ok o S'∧Dr K cl ρ H D S' o
structure PZ (X:Cx) (cl:Nat→Addr) (st:Stmt) (F:FZ):Prop where
 go:PS X st (sX X.K cl F)
structure y7 (X:Cx) (cl:Nat→Addr) (st:List Stmt) (F:FZ):Prop where
 go:r9 X st (sX X.K cl F)
noncomputable def mh:FZ:=fun δ S=> .ok (.nx δ) S
noncomputable def bu(F G:FZ):FZ:=fun δ S=>(F δ S).bind fun o S1=>match o with | .nx δ'=>G δ' S1 | .rt d=> .ok (.rt d) S1
theorem fQ:y7 X cl [] mh:=⟨sr.imp fun D σ H ⟨ρ,S,δ,o,S',E,hf,q⟩=>by
 cases hf
 exact q σ ρ H (Pre.refl ρ H) E⟩
theorem au{st:Stmt}{rest:List Stmt}{F G:FZ}(h1:PZ X cl st F)(h2:y7 X cl rest G):y7 X cl (st ::rest) (bu F G):=⟨(o9 h1.1 h2.1).imp fun D σ H ⟨ρ,S,δ,o,S',E,hf,q⟩=>by
 obtain⟨o1,S1,h1,h2⟩:=R3.ab hf
 refine⟨ρ,S,δ,o1,S1,E,h1,?_⟩
 cases o1 with
 | nx δ1=>
   intro σ1 ρ1 H1 p1 E1
   exact⟨ρ1,S1,δ1,o,S',E1,h2,q.pre p1⟩
 | rt d=>
   cases h2
   exact q⟩
theorem aG{st:Stmt}{F:FZ}(h1:PZ X cl st F):y7 X cl [st] F:=⟨sH h1.1⟩
noncomputable def cC(i:Nat)(f:FX):FZ:=fun δ S=>(f δ S).bind fun v S=>R3.bt (decide (i < δ.length)) (.ok (.nx (δ.set i (some v))) S)
theorem bj{i:Nat}{x:Str}{e:Expr}{f:FX}{pos pos':Pos}(hN:X.N.Nodup)(hi:X.N[i]? =some x)(hx:Loc X.env.scope x)(he:PX X cl e f)(hs:swapsWith e (some (.Name x pos')) pos.line X.env=pure false:=by rfl)(hf:X.fn x=true∨X.env.scope.names.lookup x=some .local:=by first | exact .inl rfl | exact .inr rfl | assumption) :
 PZ X cl (.Assign [.Name x pos'] e pos) (cC i f):=⟨(wR hN hi hx he.1 hs hf).imp fun D σ H ⟨ρ,S,δ,o,S',E,hf,q⟩=>by
 obtain⟨v,S1,h1,h2⟩:=R3.ab hf
 obtain⟨hi,h3⟩:=R3.aS h2
 cases h3
 refine⟨ρ,S,δ,v,_,E,h1,fun u ρ1 H1 p1 w1 r1=>?_⟩
 exact q _ ρ1 H1 p1 ((E.to p1 w1).set (by rw[←E.len];exact of_decide_eq_true hi) r1)⟩
noncomputable def gz(f:FX):FZ:=fun δ S=>(f δ S).bind fun v S=> .ok (.rt v) S
theorem cU{e:Expr}{f:FX}{pos:Pos}(he:PX X cl e f):PZ X cl (.Return (some e) pos) (gz f):=⟨(zZ he.1).imp fun D σ H ⟨ρ,S,δ,o,S',E,hf,q⟩=>by
 obtain⟨v,S1,h1,h2⟩:=R3.ab hf
 cases h2
 exact⟨ρ,S,δ,v,_,E,h1,fun u ρ1 H1 p1 w1 r1=>q u ρ1 H1 p1 w1 r1⟩⟩
noncomputable def wm(c:FB)(F G:FZ):FZ:=fun δ S=>(c δ S).bind fun b S=>if b then F δ S else G δ S
theorem j8{c:Expr}{a b:List Stmt}{fc:FB}{F G:FZ}{pos:Pos}(hc:Bb X cl c fc)(ha:y7 X cl a F)(hb:y7 X cl b G):PZ X cl (.If c a b pos) (wm fc F G):=⟨(Ac hc.1 ha.1 hb.1).imp fun D σ H ⟨ρ,S,δ,o,S',E,hf,q⟩=>by
 obtain⟨k,S1,h1,h2⟩:=R3.ab hf
 refine⟨ρ,S,δ,k,S1,E,h1,fun ρ1 H1 p1 w1=>?_⟩
 cases k with
 | true=>rw [if_pos rfl] at h2;exact y4 ⟨ρ1,S1,δ,o,S',E.to p1 w1,h2,q.pre p1⟩
 | false=>rw [if_neg (by decide)] at h2;exact zc ⟨ρ1,S1,δ,o,S',E.to p1 w1,h2,q.pre p1⟩⟩
noncomputable def J3(f:FX):FZ:=fun δ S=>(f δ S).bind fun _ S=> .ok (.nx δ) S
noncomputable def jB(c:FB)(body:FZ):Nat→FZ
 | 0,_,_=> .no
 | n+1,δ,S=>(c δ S).bind fun b S=>if b then(body δ S).bind fun o S=>match o with | .nx δ2=>jB c body n δ2 S | .rt r=> .ok (.rt r) S else .ok (.nx δ) S
noncomputable def vX(n:Nat)(c:FB)(body:FZ):FZ:=fun δ S=>jB c body n δ S
theorem Ax(n:Nat){c:Expr}{body:List Stmt}{fc:FB}{F:FZ}{pos:Pos}(hp:PassesOwn (model X.prog X.w) X.A X.env X.xe)(hc:Bb X cl c fc)(hb:y7 X cl body F):PZ X cl (.While c body [] pos) (vX n fc F):=
 ⟨(Bo hp hc.1 hb.1).imp fun D σ H ⟨ρ,S,δ,o,S',E,hf,q⟩=>by
   refine⟨fun m σ' H'=>∃ρ1 S1 δ1,Pre ρ H ρ1 H'∧dW X.K cl ρ1 H' S1 σ' δ1∧jB fc F m δ1 S1= .ok o S',⟨n,ρ,S,δ,Pre.refl ρ H,E,hf⟩,?_⟩
   rintro m σ' H' ⟨ρ1,S1,δ1,p1,E1,hw⟩
   cases m with
   | zero=>cases hw
   | succ m=>
     obtain⟨b,S2,h1,h2⟩:=R3.ab hw
     refine⟨ρ1,S1,δ1,b,S2,E1,h1,fun ρ2 H2 p2 w2=>?_⟩
     cases b with
     | false=>
       rw[if_neg (by decide)] at h2
       cases h2
       exact zc (q σ' ρ2 H2 (p1.trans p2) (E1.to p2 w2))
     | true=>
       rw[if_pos rfl] at h2
       obtain⟨o1,S3,h3,h4⟩:=R3.ab h2
       refine y4 ⟨fun σ4 H4=>∃ρ4 S4 δ4,Pre ρ H ρ4 H4∧dW X.K cl ρ4 H4 S4 σ4 δ4∧jB fc F m δ4 S4= .ok o S',fun σ4 H4 n=>⟨m,Nat.lt_succ_self _,n⟩,ρ2,S2,δ1,o1,S3,E1.to p2 w2,h3,?_⟩
       cases o1 with
       | nx δ2=>exact fun σ3 ρ3 H3 p3 E3=>⟨ρ3,S3,δ2,(p1.trans p2).trans p3,E3,h4⟩
       | rt d=>
         cases h4
         exact fun v ρ3 H3 p3 w r=>q v ρ3 H3 ((p1.trans p2).trans p3) w r⟩
end
end L3
end
section
set_option maxRecDepth 100000
set_option maxHeartbeats 4000000
namespace L3
open PySem PySem.Spec PyProof.Rows L2
theorem ax.get{K:PySem.W.Frag}{ρ:P3}{H:Hp}:∀{ds:List V3} {xs:List V} {i:Nat} {d:V3},ax K ρ H ds xs→ds[i]? =some d→∃x,xs[i]? =some x∧aL K ρ H d x
 | [],_,_,_,_,e=>by simp at e
 | d ::ds,xs,0,d',h,e=>by
   obtain⟨x,r,rfl,h1,h2⟩:=h.bA
   simp at e;subst e
   exact⟨x,rfl,h1⟩
 | d ::ds,xs,i+1,d',h,e=>by
   obtain⟨x,r,rfl,h1,h2⟩:=h.bA
   obtain⟨y,e1,e2⟩:=ax.get (i:=i) h2 (by simpa using e)
   exact⟨y,by simpa using e1,e2⟩
noncomputable def E7(K:PySem.W.Frag)(ρ:P3)(H:Hp)(J:It)(vs:List V3):Prop:=∀ρ' H',PW ρ H ρ' H'→(∀a∈ρ'.b,∃o,H' a=some o)→(∀(i:Nat) (d:V3),vs[i]? =some d→J.go i H'∧∀x H'',J.yld i H' x H''→aK H' H''∧aL K ρ' H'' d x)∧J.stop vs.length H'
theorem E7.of{K:PySem.W.Frag}{ρ:P3}{H:Hp}{J:It}{ds:List D}(h:xH K ρ.b H J ds):E7 K ρ H J (ds.map .d):=fun ρ' H' p bs=>by
 obtain⟨h1,h2⟩:=h ρ'.b H' p.aZ
 refine⟨fun i v hv=>?_,by rw[List.length_map];exact h2⟩
 rw[List.getElem?_map] at hv
 cases e:ds[i]? with
 | none=>rw [e] at hv;cases hv
 | some d=>
   rw[e] at hv
   cases hv
   obtain⟨g1,g2⟩:=h1 i d e
   exact⟨g1,fun x H'' y=>let⟨s,r⟩:=g2 x H'' y bs;⟨s,by unfold aL;exact r⟩⟩
noncomputable def Ko(K:PySem.W.Frag)(cl:Nat→Addr)(f:FA):TI:=fun σ H R=>∃ρ S δ vs S',dW K cl ρ H S σ δ∧f δ S= .ok vs S'∧∀J ρ1 H1,Pre ρ H ρ1 H1→SW K cl ρ1 H1 S'→E7 K ρ1 H1 J vs→R J H1
structure DM (X:Cx) (cl:Nat→Addr) (tg e:Expr) (f:FA):Prop where
 go:PI X tg e (Ko X.K cl f)
section
variable {X:Cx} {cl:Nat→Addr}
noncomputable def iP(f:aq→R (List D)):FA:=fun δ S=>(R3.of (f (down δ)) S).bind fun ds S=> .ok (ds.map .d) S
theorem cK{tg e:Expr}{f:aq→R (List D)}(h:wX X tg e f):DM X cl tg e (iP f):=⟨h.1.imp fun σ H Q ⟨ρ,S,δ,vs,S',E,hf,q⟩=>by
 obtain⟨ds,S1,h1,h2⟩:=R3.ab hf
 obtain⟨h3,e3⟩:=R3.of_ok h1
 cases h2
 subst e3
 exact⟨[],ρ.b,down δ,ds,E.down,h3,fun J H1 s r=>q J ρ H1 (Pre.same s) (E.sw.same s) (E7.of r)⟩⟩
noncomputable def uj(f:FX):FA:=fun δ S=>(f δ S).bind fun v S=>match v with | .d (.int j)=>R3.bt (decide (-(2 ^ 62)≤j∧j < 2 ^ 62)) (.ok ((gp 0 j.toNat).map .d) S) | _=> .no
theorem vR{tg a:Expr}{f:FX}{p pos:Pos}(h:PX X cl a f)(hg:Gl X "range")(hm:X.mg "range"=none)(hs:starEach [a] X.env=[(false,eval a X.env)]:=by rfl):DM X cl tg (.Call (.Name "range" p) [a] [] pos) (uj f):=
 ⟨(qY hg hm (dz h.1 f7 hs) hs).imp fun σ H RR ⟨ρ,S,δ,vs,S',E,hf,q⟩=>by
   obtain⟨v,S1,h1,h2⟩:=R3.ab hf
   match v,h1,h2 with
   | .d (.int j),h1,h2=>
     obtain⟨hb,h3⟩:=R3.aS h2
     cases h3
     have hb:=of_decide_eq_true hb
     refine⟨ρ,S,δ, .d (.int j),_,E,h1,fun u ρ1 H1 p1 w1 r1=>⟨j,?_,hb.1,hb.2,q _ ρ1 H1 p1 w1 (E7.of (Bv 0 _))⟩⟩
     unfold aL Rep at r1
     rw[r1]
   | .d .bX,_,h2=>cases h2
   | .d (.bl _),_,h2=>cases h2
   | .d (.str _),_,h2=>cases h2
   | .d (.lst _),_,h2=>cases h2
   | .d (.tup _),_,h2=>cases h2
   | .d (.dct _ _),_,h2=>cases h2
   | .loc _,_,h2=>cases h2
   | .lst _,_,h2=>cases h2
   | .tup _,_,h2=>cases h2⟩
noncomputable def uJ(f:FX):FA:=fun δ S=>(f δ S).bind fun v S=>match v with | .d (.lst ds)=> .ok (ds.map .d) S | .lst vs=> .ok vs S | _=> .no
theorem lW{tg e:Expr}{f:FX}(h:PX X cl e f):DM X cl tg e (uJ f):=⟨by
 intro pins s σ H RR I ⟨ρ,S,δ,vs,S',E,hf,q⟩
 obtain⟨v,S1,h1,h2⟩:=R3.ab hf
 refine dw (h.1 pins s σ H (fun u H1=>∃ρ1,Pre ρ H ρ1 H1∧SW X.K cl ρ1 H1 S1∧aL X.K ρ1 H1 v u) I ⟨ρ,S,δ,v,S1,E,h1,fun u ρ1 H1 p1 w1 r1=>⟨ρ1,p1,w1,r1⟩⟩) fun u s1 ⟨x,H1,I1,r1,ρ1,p1,w1,rr⟩=>?_
 have key:S1=S'∧∃a xs,x= .ref a∧ql X.K ρ1.b H1 a xs∧ax X.K ρ1 H1 vs xs:=by
  match v,h2,rr with
  | .d (.lst ds),h2,rr=>
    cases h2
    unfold aL Rep at rr
    obtain⟨a,xs,e,l,r⟩:=rr
    exact⟨rfl,a,xs,e,l,ax.of r⟩
  | .lst ws,h2,rr=>
    cases h2
    unfold aL at rr
    exact⟨rfl,rr⟩
  | .d .bX,h2,_=>cases h2
  | .d (.bl _),h2,_=>cases h2
  | .d (.int _),h2,_=>cases h2
  | .d (.str _),h2,_=>cases h2
  | .d (.tup _),h2,_=>cases h2
  | .d (.dct _ _),h2,_=>cases h2
  | .loc _,h2,_=>cases h2
  | .tup _,h2,_=>cases h2
 obtain⟨rfl,a,xs,rfl,l,rr⟩:=key
 cases r1
 obtain⟨its,rv,p,hz⟩:=I1.list l.sq
 refine wpAny_pyIter_list p.isList ?_
 refine⟨s1.heap.objs.size,[s1.heap.objs.size],_,_,H1,rfl,I1.kept (t':=s1.toks) fun b o e=>Heap.get?_push_of_some _ e,rf a _,⟨_,Heap.get?_push_size _ rfl,rfl,rfl⟩,fun b hb=>?_,q _ ρ1 H1 p1 w1 fun ρ' H' pr bs=>?_⟩
 ·have e:b=s1.heap.objs.size:=by simpa using hb
  subst e
  exact I1.n6 (Nat.le_refl _) (I1.hok.fresh (Nat.le_refl _))
 ·have l':ql X.K ρ'.b H' a xs:=l.aZ pr.aZ
  have rr':=rr.pw pr
  refine⟨fun i d hd=>?_,⟨xs,l'.sq,by rw[rr.length];exact Nat.le_refl _⟩⟩
  obtain⟨x,hx,rx⟩:=rr'.get hd
  exact⟨⟨xs,x,l'.sq,hx⟩,fun y H'' ⟨e1,e2⟩=>by
   subst e1
   have:=e2 xs l'.sq
   rw[hx] at this
   cases this
   exact⟨aK.refl _,rx⟩⟩⟩
noncomputable abbrev FG:=V3→DE→Option DE
noncomputable abbrev DO:=List V3→DE→Option DE
noncomputable def gX(K:PySem.W.Frag)(cl:Nat→Addr)(t:FG):TG:=fun v σ H Q=>∃ρ S δ x δ',dW K cl ρ H S σ δ∧aL K ρ H x v∧t x δ=some δ'∧∀σ' H',aK H H'→dW K cl ρ H' S σ' δ'→Q σ' H'
noncomputable def KZ(K:PySem.W.Frag)(cl:Nat→Addr)(t:DO):As:=fun v σ H Q=>∃ρ S δ x δ',dW K cl ρ H S σ δ∧ax K ρ H x v∧t x δ=some δ'∧∀σ' H',aK H H'→dW K cl ρ H' S σ' δ'→Q σ' H'
structure DX (X:Cx) (cl:Nat→Addr) (tg:Expr) (t:FG):Prop where
 go:PG X tg (gX X.K cl t)
structure C5 (X:Cx) (cl:Nat→Addr) (tg:List Expr) (t:DO):Prop where
 go:DG X tg (KZ X.K cl t)
theorem dW.same{K:PySem.W.Frag}{ρ:P3}{H H':Hp}{S:aF}{σ:L2.St}{δ:DE}(E:dW K cl ρ H S σ δ)(s:aK H H'):dW K cl ρ H' S σ δ:=E.to (Pre.same s) (E.sw.same s)
noncomputable def iV(i:Nat):FG:=fun d δ=>if i < δ.length then some (δ.set i (some d)) else none
theorem aU{i:Nat}{x:Str}{pos:Pos}(hN:X.N.Nodup)(hi:X.N[i]? =some x)(hx:Loc X.env.scope x)(hf:X.fn x=true∨X.env.scope.names.lookup x=some .local:=by first | exact .inl rfl | exact .inr rfl | assumption):DX X cl (.Name x pos) (iV i):=
 ⟨(xC hN hi hx hf).imp fun v σ H Q ⟨ρ,S,δ,d,δ',E,r,ht,q⟩=>by
   unfold iV at ht
   split at ht
   ·rename_i hi
    cases ht
    exact q _ H (aK.refl H) (E.set (by rw[←E.len];exact hi) r)
   ·cases ht⟩
noncomputable def v8:DO:=fun ds δ=>match ds with | []=>some δ | _=>none
noncomputable def pG(t:FG)(u:DO):DO:=fun ds δ=>match ds with | d ::r=>(t d δ).bind fun δ'=>u r δ' | []=>none
theorem ie:C5 X cl [] v8:=⟨x5.imp fun vs σ H Q ⟨ρ,S,δ,ds,δ',E,r,ht,q⟩=>by
 cases ds with
 | nil=>unfold ax at r;cases ht;exact⟨r,q σ H (aK.refl H) E⟩
 | cons=>cases ht⟩
theorem bZ{e:Expr}{es:List Expr}{t:FG}{u:DO}(h1:DX X cl e t)(h2:C5 X cl es u)(hs:(assignEach (e ::es) X.env).map (·.2)=assign e X.env ::(assignEach es X.env).map (·.2):=by rfl):C5 X cl (e ::es) (pG t u):=
 ⟨(uX h1.1 h2.1 hs).imp fun vs σ H Q ⟨ρ,S,δ,ds,δ',E,r,ht,q⟩=>by
   cases ds with
   | nil=>cases ht
   | cons d ds=>
     obtain⟨x,xs,rfl,r1,r2⟩:=r.bA
     have ht:(t d δ).bind (fun δ'=>u ds δ')=some δ':=ht
     cases e1:t d δ with
     | none=>rw [e1] at ht;cases ht
     | some δ1=>
       rw[e1] at ht
       exact⟨x,xs,rfl,ρ,S,δ,d,δ1,E,r1,e1,fun σ1 H1 s1 E1=>⟨ρ,S,δ1,ds,δ',E1,r2.pre (Pre.same s1),ht,fun σ2 H2 s2 E2=>q σ2 H2 (s1.trans s2) E2⟩⟩⟩
noncomputable def ve(n:Nat)(t:DO):FG:=fun d δ=>match d with
 | .d (.tup ds)=>if ds.length=n then t (ds.map .d) δ else none
 | .tup vs=>if vs.length=n then t vs δ else none
 | _=>none
theorem jz{es:List Expr}{k:Nat}{t:DO}{n:Nat}{pos:Pos}(hc:X.calm=true)(h:C5 X cl es t)(hn:(assignEach es X.env).length=n:=by rfl)(hst:(assignEach es X.env).findIdx? (·.1)=none:=by rfl):DX X cl (.Tuple es k pos) (ve n t):=
 ⟨(Ar hc h.1 hn hst).imp fun v σ H Q ⟨ρ,S,δ,d,δ',E,r,ht,q⟩=>by
   have key:∃vs a xs,v= .ref a∧qO X.K ρ.b H a xs∧ax X.K ρ H vs xs∧vs.length=n∧t vs δ=some δ':=by
    unfold ve at ht
    split at ht
    ·rename_i ds
     split at ht
     ·rename_i hl
      unfold aL Rep at r
      obtain⟨a,xs,e,l,r⟩:=r
      exact⟨ds.map .d,a,xs,e,l,ax.of r,by rw[List.length_map];exact hl,ht⟩
     ·cases ht
    ·rename_i vs
     split at ht
     ·rename_i hl
      unfold aL at r
      obtain⟨a,xs,e,l,r⟩:=r
      exact⟨vs,a,xs,e,l,r,hl,ht⟩
     ·cases ht
    ·cases ht
   obtain⟨vs,a,xs,rfl,l,r,hl,ht⟩:=key
   exact⟨a,xs,rfl,l.sq,by rw[←r.length];exact hl,ρ,S,δ,vs,δ',E,r,ht,q⟩⟩
noncomputable def FN(f:FX)(t:FG):FZ:=fun δ S=>(f δ S).bind fun d S=>match t d δ with | some δ'=> .ok (.nx δ') S | none=> .no
theorem Fo{tg e:Expr}{f:FX}{t:FG}{pos:Pos}(he:PX X cl e f)(hg:DX X cl tg t)(hs:swapsWithSole [tg] e pos.line X.env=pure false:=by rfl)(hw:swappedStores [tg] e X.env=pure none:=by rfl)
 (h1:(assignEach [tg] X.env).map (·.2)=[assign tg X.env]:=by rfl):PZ X cl (.Assign [tg] e pos) (FN f t):=⟨(An he.1 hg.1 hs hw h1).imp fun D σ H ⟨ρ,S,δ,o,S',E,hf,q⟩=>by
 obtain⟨d,S1,h1,h2⟩:=R3.ab hf
 split at h2
 ·rename_i δ1 e1
  cases h2
  exact⟨ρ,S,δ,d,_,E,h1,fun v ρ1 H1 p1 w1 r1=>⟨ρ1,_,δ,d,δ1,E.to p1 w1,r1,e1,fun σ' H2 s2 E2=>q σ' ρ1 H2 (p1.trans (Pre.same s2)) E2⟩⟩
 ·cases h2⟩
noncomputable def iB(t:FG)(body:FZ):List V3→FZ
 | [],δ,S=> .ok (.nx δ) S
 | d ::ds,δ,S=>match t d δ with
   | none=> .no
   | some δ1=>(body δ1 S).bind fun o S=>match o with | .nx δ2=>iB t body ds δ2 S | .rt r=> .ok (.rt r) S
noncomputable def iq(it:FA)(t:FG)(body:FZ):FZ:=fun δ S=>(it δ S).bind fun vs S=>iB t body vs δ S
theorem d9{tg iter:Expr}{body:List Stmt}{it:FA}{t:FG}{F:FZ}{pos:Pos}(hp:PassesOwn (model X.prog X.w) X.A X.env X.xe)(hc:X.calm=true)(hi:DM X cl tg iter it)(hg:DX X cl tg t)(hb:y7 X cl body F)
 (hs:∀x,foldedSetIterable iter X.env x=pure x:=by intro _;rfl):PZ X cl (.For tg iter body [] pos) (iq it t F):=⟨(vS hp hc hi.1 hg.1 hb.1 hs).imp fun D σ H ⟨ρ,S,δ,o,S',E,hf,q⟩=>by
 obtain⟨ds,S0,h1,h2⟩:=R3.ab hf
 refine⟨ρ,S,δ,ds,S0,E,h1,fun J ρ1 H1 p1 w1 ir=>?_⟩
 refine⟨fun i m σ' H'=>m=ds.length - i∧i≤ds.length∧∃ρ' S1 δ',Pre ρ1 H1 ρ' H'∧dW X.K cl ρ' H' S1 σ' δ'∧iB t F (ds.drop i) δ' S1= .ok o S',⟨ds.length,rfl,Nat.zero_le _,ρ1,S0,δ,Pre.refl ρ1 H1,E.to p1 w1,by simpa using h2⟩,?_⟩
 rintro i m σ' H' ⟨rfl,hi,ρ',S1,δ',pv,E',hl⟩
 obtain⟨go,stop⟩:=ir ρ' H' pv.pw E'.sw.bs
 by_cases hlt:i < ds.length
 ·have hd:ds[i]? =some ds[i]:=List.getElem?_eq_getElem hlt
  have hdrop:ds.drop i=ds[i] ::ds.drop (i+1):=List.drop_eq_getElem_cons hlt
  rw[hdrop] at hl
  unfold iB at hl
  split at hl
  ·cases hl
  ·rename_i δ1 h3
   obtain⟨o1,S2,h5,h6⟩:=R3.ab hl
   obtain⟨g1,g2⟩:=go i _ hd
   refine .inr ⟨g1,fun σ2 H2=>∃ρ2 S2 δ2,Pre ρ1 H1 ρ2 H2∧dW X.K cl ρ2 H2 S2 σ2 δ2∧iB t F (ds.drop (i+1)) δ2 S2= .ok o S',fun σ2 H2 n=>⟨ds.length - (i+1),by omega,rfl,hlt,n⟩,fun x H'' y=>?_⟩
   obtain⟨ss,rr⟩:=g2 x H'' y
   refine⟨ρ',S1,δ',ds[i],δ1,E'.same ss,rr,h3,fun σ2 H2 s2 E2=>⟨ρ',S1,δ1,o1,S2,E2,h5,?_⟩⟩
   have pv2:Pre ρ1 H1 ρ' H2:=pv.trans (Pre.same (ss.trans s2))
   cases o1 with
   | nx δ2=>exact fun σ3 ρ3 H3 p3 E3=>⟨ρ3,S2,δ2,pv2.trans p3,E3,h6⟩
   | rt d=>
     cases h6
     exact fun v ρ3 H3 p3 w r=>q v ρ3 H3 (p1.trans (pv2.trans p3)) w r
 ·have e:i=ds.length:=by omega
  subst e
  rw[List.drop_length] at hl
  cases hl
  exact .inl ⟨stop,q σ' ρ' H' (p1.trans pv) E'⟩⟩
end
end L3
end
section
set_option maxRecDepth 100000
set_option maxHeartbeats 4000000
namespace L3
open PySem PySem.Spec PyProof.Rows L2
mutual
noncomputable def ki(n:Nat):V3→Bool
 | .d _=>true
 | .loc k=>decide (k < n)
 | .lst vs=>gU n vs
 | .tup vs=>gU n vs
noncomputable def gU(n:Nat):List V3→Bool
 | []=>true
 | v ::vs=>ki n v && gU n vs
end
noncomputable def ll(n:Nat):SO→Bool
 | .ins _ fs=>gU n (fs.map (·.2))
 | _=>true
theorem CB{ρ:P3}{n:Nat}{b:Addr}(h:b∈(ρ.cut n).b):b∈ρ.b:=by
 rcases P3.dv.mp h with z | z
 ·exact P3.dv.mpr (.inl ⟨List.mem_of_mem_take z.1,z.2⟩)
 ·exact P3.dv.mpr (.inr z)
theorem g8{ρ:P3}{H:Hp}(n:Nat):c_ ρ.b H (ρ.cut n).b H:=fun b o e nb=>⟨e,fun hb=>nb (CB hb)⟩
mutual
theorem aL.cut{K:PySem.W.Frag}{ρ:P3}{H:Hp}{n:Nat}:∀{v:V3} {x:V},ki n v=true→aL K ρ H v x→aL K (ρ.cut n) H v x
 | .d y,x,_,h=>by unfold aL at h ⊢;exact h.aZ (g8 n)
 | .loc k,x,o,h=>by
   unfold aL at h ⊢
   unfold ki at o
   obtain⟨a,h1,h2⟩:=h
   exact⟨a,by show(ρ.r.take n)[k]? =_;rw [List.getElem?_take_of_lt (of_decide_eq_true o)];exact h1,h2⟩
 | .lst vs,x,o,h=>by
   unfold aL at h ⊢
   unfold ki at o
   obtain⟨a,xs,e,l,r⟩:=h
   exact⟨a,xs,e,l.aZ (g8 n),ax.cut o r⟩
 | .tup vs,x,o,h=>by
   unfold aL at h ⊢
   unfold ki at o
   obtain⟨a,xs,e,l,r⟩:=h
   exact⟨a,xs,e,qO.aZ (g8 n) l,ax.cut o r⟩
theorem ax.cut{K:PySem.W.Frag}{ρ:P3}{H:Hp}{n:Nat}:∀{vs:List V3} {xs:List V},gU n vs=true→ax K ρ H vs xs→ax K (ρ.cut n) H vs xs
 | [],_,_,h=>by unfold ax at h ⊢;exact h
 | v ::vs,xs,o,h=>by
   unfold gU at o
   obtain⟨o1,o2⟩:=Bool.and_eq_true_iff.mp o
   obtain⟨x,r,rfl,h1,h2⟩:=h.bA
   exact ax.cons (aL.cut o1 h1) (ax.cut o2 h2)
end
theorem SW.cut{K:PySem.W.Frag}{cl:Nat→Addr}{ρ:P3}{H:Hp}{S:aF}(w:SW K cl ρ H S){n:Nat}(ok:(S.take n).all (ll n)=true):SW K cl (ρ.cut n) H (S.take n):=
 ⟨by show(ρ.r.take n).length=_;rw [List.length_take,List.length_take,w.len],fun i j a hi hj=>by
   have hi:(ρ.r.take n)[i]? =some a:=hi
   have hj:(ρ.r.take n)[j]? =some a:=hj
   have gi:ρ.r[i]? =some a:=by
    rw[List.getElem?_take] at hi;split at hi
    ·exact hi
    ·cases hi
   have gj:ρ.r[j]? =some a:=by
    rw[List.getElem?_take] at hj;split at hj
    ·exact hj
    ·cases hj
   exact w.nd i j a gi gj,fun k a o hk ho=>by
   have hk:(ρ.r.take n)[k]? =some a:=hk
   have gk:ρ.r[k]? =some a:=by
    rw[List.getElem?_take] at hk;split at hk
    ·exact hk
    ·cases hk
   have go:S[k]? =some o:=by
    rw[List.getElem?_take] at ho;split at ho
    ·exact ho
    ·cases ho
   have r:=w.ob k a o gk go
   have oo:ll n o=true:=List.all_eq_true.mp ok o (List.mem_of_getElem? ho)
   cases o with
   | lst ds=>obtain⟨xs,e,q⟩:=r;exact⟨xs,e,q.aZ (g8 n)⟩
   | dct kvs=>obtain⟨ys,e,e2,q⟩:=r;exact⟨ys,e,e2,q.aZ (g8 n)⟩
   | ins c fs=>obtain⟨dx,ys,e,e2,q⟩:=r;exact⟨dx,ys,e,e2,q.cut oo⟩
   | gq=>exact r,fun b hb=>let⟨h1,h2⟩:=w.zb b hb;⟨h1,fun h=>h2 (List.mem_of_mem_take h)⟩,(fun k a hk ho=>by
   have hk:(ρ.r.take n)[k]? =some a:=hk
   rw[List.getElem?_take] at hk
   split at hk
   ·rename_i hlt
    rw[List.getElem?_take_of_lt hlt] at ho
    exact w.fz k a hk ho
   ·cases hk),w.ff,(fun k a hk ho=>by
   have hk:(ρ.r.take n)[k]? =some a:=hk
   rw[List.getElem?_take] at hk
   split at hk
   ·rename_i hlt
    rw[List.getElem?_take_of_lt hlt] at ho
    exact w.fi k a hk ho
   ·cases hk)⟩
theorem SW.Fi{K:PySem.W.Frag}{cl:Nat→Addr}{ρ ρ':P3}{H H':Hp}{n:Nat}(hn:ρ.r.length≤n)(p:Pre ρ H ρ' H'):Pre ρ H (ρ'.cut n) H':=
 ⟨p.aZ.trans (g8 n),p.zz,p.zs,fun k a h=>by show(ρ'.r.take n)[k]? =_;rw [List.getElem?_take_of_lt (Nat.lt_of_lt_of_le (List.getElem?_eq_some_iff.mp h).1 hn)];exact p.ext k a h⟩
section
variable {X:Cx} {cl:Nat→Addr}
noncomputable def cq(S:aF)(k:Nat):Option (List D):=match S[k]? with | some (.lst ds)=>some ds | _=>none
theorem fI{S:aF}{k:Nat}{ds:List D}(h:cq S k=some ds):S[k]? =some (.lst ds):=by
 unfold cq at h
 split at h
 ·rename_i e;cases h;exact e
 ·cases h
noncomputable def eO(δ:DE)(i:Nat):Option Nat:=match δ[i]? with | some (some (.loc k))=>some k | _=>none
theorem lp{δ:DE}{i k:Nat}(h:eO δ i=some k):δ[i]? =some (some (.loc k)):=by
 unfold eO at h
 split at h
 ·rename_i e;cases h;exact e
 ·cases h
noncomputable def mG(i:Nat)(f:FX):FZ:=fun δ S=>match eO δ i with
 | none=> .no
 | some k=>match cq S k with
   | none=> .no
   | some _=>(f δ S).bind fun v S1=>match v with
     | .d d=>(match cq S1 k with | some ds=>R3.bt (decide (ds.length < sizeLine)) (.ok (.nx δ) (S1.set k (.lst (ds++[d])))) | none=> .no)
     | _=> .no
theorem lK{i:Nat}{x:Str}{e:Expr}{f:FX}{npos apos cpos pos:Pos}(hN:X.N[i]? =some x)(hv:DV X.env.scope x)(he:PX X cl e f)
 (hd:(x==("__debug__":Str))=false:=by decide) (hcd:(x==("__classdict__":Str))=false:=by decide)
 (hs:starEach [e] X.env=(false,eval e X.env) ::starEach [] X.env:=by rfl) (hline:(apos.endLine==cpos.line)=true:=by rfl)
 (hfew:((backTo cpos (starEach [e] X.env)).all (fun x=>!x.1) && (backToKw cpos (keywordEach [] X.env)).all (fun x=>x.1.isSome)
   && decide (([e]:List Expr).length+([]:List Keyword).length+(if([]:List Keyword).isEmpty then 0 else 1) < 30))=true:=by rfl)
 (hsw:swapsWith (.Call (.Attribute (.Name x npos) "append" apos) [e] [] cpos) none pos.line X.env=pure false:=by rfl)
 (hbase:attributeBase (.Name x npos) "append" X.env (eval (.Name x npos) X.env)=eval (.Name x npos) X.env:=by rfl) :
 PZ X cl (.Expr (.Call (.Attribute (.Name x npos) "append" apos) [e] [] cpos) pos) (mG i f):=by
 refine⟨(yd (D5 (X:=X) PySem.F.plainAttrs_list PySem.F.slot_list_append PySem.F.type_list_append mV (sS hN hv hd hcd) (dz he.1 f7 hs) hbase hfew hline hs) hsw).imp fun D σ H ⟨ρ,S,δ,o,S',E,hf,q⟩=>?_⟩
 unfold mG at hf
 split at hf
 ·cases hf
 ·rename_i k hk
  split at hf
  ·cases hf
  ·rename_i ds0 h0
   obtain⟨v,S1,h1,h2⟩:=R3.ab hf
   split at h2
   ·rename_i d
    split at h2
    ·rename_i ds h3
     obtain⟨hl,h4⟩:=R3.aS h2
     cases h4
     obtain⟨u,u1,u2⟩:=E.val i _ (lp hk)
     unfold aL at u2
     obtain⟨a,a1,rfl⟩:=u2
     obtain⟨xs0,x0,_⟩:=E.sw.ob k a _ a1 (fI h0)
     refine⟨.ref a,u1, .inl ⟨rfl,xs0,lR.of x0⟩,⟨ρ,S,δ, .d d,S1,E,h1,fun y ρ1 H1 p1 w1 r1=>?_⟩⟩
     have b1:=p1.ext k a a1
     obtain⟨xs,x1,x2⟩:=w1.ob k a _ b1 (fI h3)
     refine⟨a,xs,y,rfl,rfl,x1,by rw[←x2.length];exact of_decide_eq_true hl,?_⟩
     unfold aL at r1
     obtain⟨w2,p2⟩:=w1.put (o:= .lst (ds++[d])) (u:= .lst (xs++[y])) b1 (w1.fz k a b1 (by rw[fI h3];intro h;cases h)) ⟨xs++[y],rfl,x2.append (ay.cons r1 ay.nil)⟩
     exact q σ ρ1 _ (p1.trans p2) (E.to (p1.trans p2) w2)
    ·cases h2
   ·cases h2
noncomputable def yz(fo fi fe:FX):FZ:=fun δ S=>(fe δ S).bind fun v S1=>(fo δ S1).bind fun o S2=>(fi δ S2).bind fun j S3=>match v,o,j with
 | .d d, .loc k, .d (.int n)=>(match cq S3 k with
   | some ds=>(match qj ds.length n with | some m=> .ok (.nx δ) (S3.set k (.lst (ds.set m d))) | none=> .no)
   | none=> .no)
 | _,_,_=> .no
noncomputable def zo(K:PySem.W.Frag)(cl:Nat→Addr)(n:Nat)(g:List V3→aF→R3 V3):Sp:=fun vs H Q _=>vs.length=n∧∃ρ S xs v S',SW K cl ρ H S∧ax K ρ H xs vs∧g xs S= .ok v S'∧∀u ρ' H',Pre ρ H ρ' H'→SW K cl ρ' H' S'→aL K ρ' H' v u→Q u H'
noncomputable def df(g:List V3→aF→R3 V3)(fs:FA):FX:=fun δ S=>(fs δ S).bind g
noncomputable def aH(P:Program)(w:World)(K:PySem.W.Frag)(mg:Str→Option Value)(base:Heap)(cl:Nat→Addr)(k:Nat)(x:Str)(n:Nat)(g:List V3→aF→R3 V3):Prop:=
 ∃(f:Addr) (fd:FuncData) (ps:List Str),f_ P w K mg base qk k f fd ps (zo K cl n g)∧mg x=some (.ref f)∧PySem.W.keepIn K (.ref f)=true∧Binds K fd ps []
theorem bR{g:List V3→aF→R3 V3}{k j n:Nat}{x:Str}{p pos:Pos}{e:Expr}{es:List Expr}{fs:FA}(C:aH X.prog X.w X.K X.mg X.base cl k x n g)(hr:dS j X.A)(hkj:k≤j)(hg:Gl X x)(ha:BV X cl (e ::es) fs)
 (hn:∀δ S ds S',fs δ S= .ok ds S'→ds.length=n) (hdb:(x==("__debug__":Str))=false:=by decide) (he:starEach (e ::es) X.env=(false,eval e X.env) ::starEach es X.env:=by rfl) (hpl:(backTo pos (starEach es X.env)).any (·.1)=false:=by rfl) :
 PX X cl (.Call (.Name x p) (e ::es) [] pos) (df g fs):=by
 obtain⟨f,fd,ps,F,hm,hk,hb⟩:=C
 refine⟨(sd F (hr.mono hkj) hg hm hk hb .nil ue ha.1 hdb he hpl).imp fun σ H Q ⟨ρ,S,δ,v,S',E,hf,q⟩=>?_⟩
 obtain⟨vs,S1,h1,h2⟩:=R3.ab hf
 refine⟨ρ,S,δ,vs,S1,E,h1,fun us ρ1 H1 p1 w1 r1=>?_⟩
 show zo X.K cl n g (us++[]) H1 Q E0
 rw[List.append_nil]
 exact⟨by rw[←r1.length];exact hn δ S vs S1 h1,ρ1,S1,vs,v,S',w1,r1,h2,fun z ρ2 H2 p2 w2 r2=>q z ρ2 H2 (p1.trans p2) w2 r2⟩
end
noncomputable def bE(N:List Str)(vs:List V3):DE:=vs.map some++List.replicate (N.length - vs.length) none
theorem Aa{K:PySem.W.Frag}{cl:Nat→Addr}{ρ:P3}{H:Hp}{S:aF}{N:List Str}{ds:List V3}{vs:List V}(w:SW K cl ρ H S)(r:ax K ρ H ds vs):dW K cl ρ H S (L2.start N vs) (bE N ds) where
 len:=by unfold L2.start bE;simp [r.length]
 sw:=w
 val:=fun i d e=>by
  unfold bE at e
  unfold L2.start
  by_cases hi:i < ds.length
  ·rw[List.getElem?_append_left (by simpa using hi),List.getElem?_map] at e
   cases q:ds[i]? with
   | none=>rw [q] at e;cases e
   | some d'=>
     rw[q] at e
     cases e
     obtain⟨x,h1,h2⟩:=r.get q
     exact⟨x,by rw[List.getElem?_append_left (by rw[List.length_map,←r.length];exact hi),List.getElem?_map,h1];rfl,h2⟩
  ·rw[List.getElem?_append_right (by simpa using hi),List.getElem?_replicate] at e
   split at e <;> cases e
noncomputable def l6(N:List Str)(F:FZ):List V3→aF→R3 V3:=fun vs S=>(F (bE N vs) S).bind fun o S'=>match o with | .rt v=> .ok v S' | .nx _=> .ok (.d .bX) S'
noncomputable def mF(N:List Str)(F:FZ):List V3→aF→R3 V3:=fun vs S=>(l6 N F vs S).bind fun v S'=>match res S' v with
 | some d=>R3.bt ((S'.take S.length).all (ll S.length) && eQ S.length v) (.ok (.d d) (S'.take S.length))
 | none=> .no
theorem B_{P:Program}{w:World}{K:PySem.W.Frag}{mg:Str→Option Value}{base:Heap}{cl:Nat→Addr}{x qual:Str}{st:Stmt}{f:Addr}{fd:FuncData}{N ps:List Str}{k:Nat}{F:FZ}(Fn:xQ K x qual st f fd)(S:bf N ps (ae st))
 (hbody:∀(cdv:Value) (A:Around) (outer:List Env) (s:Shared) (H:Hp) (E:XK),dS k (A.deeper (envOfC qual (ae st) s.heap.objs.size f cdv))→
   y7 (pe qk P w K mg base N qual (ae st) f cdv A outer s H E).C3 cl (aj st) F):f_ P w K mg base qk (k+1) f fd ps (zo K cl ps.length (l6 N F)):=by
 refine Fn.ok S (fun vs H Q E h=>h.1) (fun cdv A outer s H vs Q E hr h=>⟨_,(hbody cdv A outer s H E hr).1,?_⟩)
 obtain⟨_,ρ,S,ds,v,S',w,r,hg,q⟩:=h
 obtain⟨o,S1,h1,h2⟩:=R3.ab hg
 refine⟨ρ,S,bE N ds,o,S1,Aa w r,h1,?_⟩
 cases o with
 | nx δ'=>
   cases h2
   exact fun σ' ρ' H' p' E'=>q _ ρ' H' p' E'.sw (by unfold aL Rep;rfl)
 | rt d'=>
   cases h2
   exact fun u ρ' H' p' w' r'=>q u ρ' H' p' w' r'
theorem wM{K:PySem.W.Frag}{cl:Nat→Addr}{N:List Str}{F:FZ}{n:Nat}{vs:List V}{H:Hp}{Q:VK}{E:XK}(h:zo K cl n (mF N F) vs H Q E):zo K cl n (l6 N F) vs H Q E:=by
 obtain⟨hl,ρ,S,xs,v,S',w,r,hg,q⟩:=h
 obtain⟨v1,S1,h1,h2⟩:=R3.ab hg
 refine⟨hl,ρ,S,xs,v1,S1,w,r,h1,fun u ρ1 H1 p1 w1 r1=>?_⟩
 have pc:Pre ρ H (ρ1.cut S.length) H1:=SW.Fi (K:=K) (cl:=cl) (by rw[w.len];exact Nat.le_refl _) p1
 split at h2
 ·rename_i d e
  obtain⟨ok,h3⟩:=R3.aS h2
  obtain⟨ok,hk⟩:=Bool.and_eq_true_iff.mp ok
  cases h3
  refine q u _ H1 pc (w1.cut ok) ?_
  unfold aL
  refine r1.resB w1 (g8 _) (fun k a hk a1 ha=>?_) hk e
  rcases P3.dv.mp ha with⟨z,_⟩ | z
  ·obtain⟨j,hj⟩:=List.getElem?_of_mem z
   have hj:(ρ1.r.take S.length)[j]? =some a:=hj
   rw[List.getElem?_take] at hj
   split at hj
   ·rename_i hjl
    have:=w1.nd j k a hj a1
    omega
   ·cases hj
  ·exact(w1.zb a z).2 (List.mem_of_getElem? a1)
 ·cases h2
end L3
end
section
set_option maxRecDepth 100000
set_option maxHeartbeats 4000000
namespace L3
open PySem PySem.Spec PyProof.Rows L2
theorem ay.setAt{K:PySem.W.Frag}{ρ:P3}{H:Hp}:∀{ds:List D} {xs:List V} {m:Nat} {d:D} {v:V},ay K ρ.b H ds xs→Rep K ρ.b H d v→ay K ρ.b H (ds.set m d) (xs.set m v)
 | [],_,_,_,_,h,_=>by unfold ay at h;subst h;exact ay.nil
 | e ::ds,xs,0,d,v,h,r=>by
   obtain⟨x,r',rfl,h1,h2⟩:=h.bA
   exact ay.cons r h2
 | e ::ds,xs,m+1,d,v,h,r=>by
   obtain⟨x,r',rfl,h1,h2⟩:=h.bA
   exact ay.cons h1 (ay.setAt h2 r)
section
variable {X:Cx} {cl:Nat→Addr}
theorem sV{o i e:Expr}{fo fi fe:FX}{spos pos:Pos}(he:PX X cl e fe)
 (hg:PG X (.Subscript o i spos) (G2 (tX X.K cl fo) (tX X.K cl fi) Eg))
 (hs:swapsWithSole [.Subscript o i spos] e pos.line X.env=pure false:=by rfl) (hw:swappedStores [.Subscript o i spos] e X.env=pure none:=by rfl)
 (h1:(assignEach [.Subscript o i spos] X.env).map (·.2)=[assign (.Subscript o i spos) X.env]:=by rfl):PZ X cl (.Assign [.Subscript o i spos] e pos) (yz fo fi fe):=⟨(An he.1 hg hs hw h1).imp fun D σ H ⟨ρ,S,δ,ou,S',E,hf,q⟩=>by
 obtain⟨v,S1,h1,h2⟩:=R3.ab hf
 obtain⟨vo,S2,h3,h4⟩:=R3.ab h2
 obtain⟨vi,S3,h5,h6⟩:=R3.ab h4
 split at h6
 ·rename_i d k n
  split at h6
  ·rename_i ds hds
   split at h6
   ·rename_i m hm
    cases h6
    refine⟨ρ,S,δ, .d d,S1,E,h1,fun u ρ1 H1 p1 w1 r1=>⟨ρ1,S1,δ, .loc k,S2,E.to p1 w1,h3,fun u2 ρ2 H2 p2 w2 r2=>⟨ρ2,S2,δ, .d (.int n),S3,(E.to p1 w1).to p2 w2,h5,fun u3 ρ3 H3 p3 w3 r3=>?_⟩⟩⟩
    unfold aL at r2
    obtain⟨a,a1,rfl⟩:=r2
    have a3:=p3.ext k a a1
    obtain⟨xs,x1,x2⟩:=w3.ob k a _ a3 (fI hds)
    unfold aL Rep at r3
    have r1':=r1.pre (p2.trans p3)
    unfold aL at r1'
    obtain⟨w4,p4⟩:=w3.put (o:= .lst (ds.set m d)) (u:= .lst (xs.set m u)) a3 (w3.fz k a a3 (by rw[fI hds];intro h;cases h)) ⟨xs.set m u,rfl,ay.setAt x2 r1'⟩
    exact⟨a,xs,n,m,rfl,r3,x1,by rw[←x2.length];exact hm,q σ ρ3 _ (((p1.trans p2).trans p3).trans p4) (E.to (((p1.trans p2).trans p3).trans p4) w4)⟩
   ·cases h6
  ·cases h6
 ·cases h6⟩
noncomputable def kX(δ:DE)(i:Nat):Option V3:=match δ[i]? with | some (some v)=>some v | _=>none
noncomputable def fY(own:List Str)(kp:List Nat)(δ:DE):DE:=List.replicate own.length none++kp.map (kX δ)
theorem DA{K:PySem.W.Frag}{ρ ρ':P3}{H H':Hp}{S S':aF}{σ:L2.St}{δ:DE}{own:List Str}{kp:List Nat}(E:dW K cl ρ H S σ δ)(p:PW ρ H ρ' H')(w:SW K cl ρ' H' S'):dW K cl ρ' H' S' (c8 own kp σ) (fY own kp δ) where
 len:=by unfold c8 fY;simp
 sw:=w
 val:=fun i d e=>by
  unfold fY at e
  unfold c8
  by_cases hi:i < own.length
  ·rw[List.getElem?_append_left (by simpa using hi),List.getElem?_replicate] at e
   split at e <;> cases e
  ·rw[List.getElem?_append_right (by simpa using hi),List.length_replicate,List.getElem?_map] at e ⊢
   cases q:kp[i - own.length]? with
   | none=>rw [q] at e;cases e
   | some j=>
     rw[q] at e
     have e:kX δ j=some d:=Option.some.inj e
     unfold kX at e
     split at e
     ·rename_i d' ed
      cases e
      obtain⟨v,h1,h2⟩:=E.val j d ed
      exact⟨v,by simp [h1],h2.pw p⟩
     ·cases e
noncomputable def j3(t:FG)(c:FB)(f:FX)(δ:DE):List V3→aF→R3 (List V3)
 | [],S=> .ok [] S
 | v ::vs,S=>match t v δ with
   | none=> .no
   | some δ1=>(c δ1 S).bind fun b S1=>if b then(f δ1 S1).bind fun y S2=>(j3 t c f δ vs S2).bind fun ys S3=> .ok (y ::ys) S3 else j3 t c f δ vs S1
noncomputable def k3(it:FA)(t:FG)(c:FB)(f:FX)(own:List Str)(kp:List Nat):FX:=fun δ S=>(it δ S).bind fun vs S1=>R3.bt (decide (vs.length≤sizeLine)) ((j3 t c f (fY own kp δ) vs S1).bind fun ys S2=> .ok (hJ ys) S2)
theorem ax.append{K:PySem.W.Frag}{ρ:P3}{H:Hp}:∀{ds es:List V3} {xs ys:List V},ax K ρ H ds xs→ax K ρ H es ys→ax K ρ H (ds++es) (xs++ys)
 | [],_,_,_,h,t=>by unfold ax at h;subst h;exact t
 | d ::ds,es,xs,ys,h,t=>by
   obtain⟨x,r,rfl,h1,h2⟩:=h.bA
   exact ax.cons h1 (ax.append h2 t)
theorem yi{K:PySem.W.Frag}{it:FA}{t:FG}{c:FB}{f:FX}{own:List Str}{kp:List Nat}{σ:L2.St}{H:Hp}{Q:VK}(h:tX K cl (k3 it t c f own kp) σ H Q) :
 xg (Ko K cl it) (gX K cl t) (E6 K cl c) (tX K cl f) own kp σ H Q:=by
 obtain⟨ρ,S,δ,v,SF,E,hf,q⟩:=h
 obtain⟨es,S1,h1,h2⟩:=R3.ab hf
 obtain⟨hl,h3⟩:=R3.aS h2
 have hl:=of_decide_eq_true hl
 obtain⟨vs,S2,h4,h5⟩:=R3.ab h3
 cases h5
 refine⟨ρ,S,δ,es,S1,E,h1,fun J ρ1 H1 p1 w1 ir Dd hD=>?_⟩
 have nDz:Dd ∉ ρ1.b:=fun hb=>by obtain⟨o,ho⟩:=w1.bs Dd hb;rw [hD] at ho;cases ho
 have nDr:Dd ∉ ρ1.r:=fun hb=>by obtain⟨o,ho⟩:=w1.rs Dd hb;rw [hD] at ho;cases ho
 have toZ:∀{r' f':List Addr} {H':Hp},Pre ρ1 H1 ⟨r',ρ1.z,f'⟩ H'→PW ρ1 H1 ⟨r',Dd ::ρ1.z,f'⟩ H':=fun {r' f' H'} p=>⟨fun b o e nb=>⟨(p.aZ b o e nb).1,fun hb=>by
  rcases P3.dv.mp hb with z | z
  ·exact(p.aZ b o e nb).2 (P3.dv.mpr (.inl z))
  ·rcases List.mem_cons.mp z with y | y
   ·exact bY e hD y
   ·exact(p.aZ b o e nb).2 (P3.dv.mpr (.inr y))⟩,p.ext⟩
 have w0:SW K cl ⟨ρ1.r,Dd ::ρ1.z,ρ1.f⟩ (upd H1 Dd (.lst [])) S1:=by
  have s0:aK H1 (upd H1 Dd (.lst [])):=aD hD
  have ws:=w1.same s0
  refine⟨ws.len,ws.nd,fun k a o hk ho=>?_,fun b hb=>?_,ws.fz,ws.ff,ws.fi⟩
  ·have r:=w1.ob k a o hk ho
   obtain⟨u,hu⟩:=r.some
   rw[s0 a u hu,←hu]
   exact r.pw (toZ (Pre.same s0))
  ·rcases List.mem_cons.mp hb with y | y
   ·subst y;exact⟨⟨_,aN⟩,nDr⟩
   ·exact ws.zb b y
 refine⟨fun i m ys H'=>m=es.length - i∧i≤es.length∧ys.length≤i∧H' Dd=some (.lst ys)∧∃r' f' S' done rest,Pre ρ1 H1 ⟨r',ρ1.z,f'⟩ H'∧SW K cl ⟨r',Dd ::ρ1.z,f'⟩ H' S'∧vs=done++rest∧ax K ⟨r',Dd ::ρ1.z,f'⟩ H' done ys∧j3 t c f (fY own kp δ) (es.drop i) S'= .ok rest SF,
  ⟨es.length,rfl,Nat.zero_le _,Nat.le_refl _,aN,ρ1.r,ρ1.f,S1,[],vs,Pre.same (aD hD),w0,rfl,ax.nil,by simpa using h4⟩,?_⟩
 rintro i m ys H' ⟨rfl,hi,hy,hDl,r',f',S',done,rest,pv,w',rfl,rd,hc⟩
 obtain⟨go,stop⟩:=ir ⟨r',Dd ::ρ1.z,f'⟩ H' (toZ pv) w'.bs
 have unZ:∀{ρ4:P3} {H4:Hp},Pre ⟨r',Dd ::ρ1.z,f'⟩ H' ρ4 H4→Pre ρ1 H1 ⟨ρ4.r,ρ1.z,ρ4.f⟩ H4:=fun {ρ4 H4} p4=>⟨fun b o e nb=>by
  obtain⟨e1,n1⟩:=(toZ pv).aZ b o e nb
  obtain⟨e2',n2⟩:=p4.aZ b o e1 n1
  refine⟨e2',fun hb=>n2 ?_⟩
  rcases P3.dv.mp hb with z | z
  ·exact P3.dv.mpr (.inl z)
  ·exact P3.dv.mpr (.inr (by rw[p4.zz];exact List.mem_cons_of_mem _ z)),rfl,fun b o hb h=>p4.zs b o (List.mem_cons_of_mem _ hb) (pv.zs b o hb h),fun k a h=>p4.ext k a (pv.ext k a h)⟩
 by_cases hlt:i < es.length
 ·have hd:es[i]? =some es[i]:=List.getElem?_eq_getElem hlt
  have hdrop:es.drop i=es[i] ::es.drop (i+1):=List.drop_eq_getElem_cons hlt
  rw[hdrop] at hc
  unfold j3 at hc
  split at hc
  ·cases hc
  ·rename_i δ1 h6
   obtain⟨b,T1,h7,h8⟩:=R3.ab hc
   obtain⟨g1,g2⟩:=go i _ hd
   refine .inr ⟨g1,fun x H2 y=>?_⟩
   obtain⟨sy,ry⟩:=g2 x H2 y
   have Ec:dW K cl ⟨r',Dd ::ρ1.z,f'⟩ H2 S' (c8 own kp σ) (fY own kp δ):=DA E (p1.pw.trans ((toZ pv).trans (Pre.same sy).pw)) (w'.same sy)
   refine⟨⟨r',Dd ::ρ1.z,f'⟩,S',fY own kp δ,es[i],δ1,Ec,ry,h6,fun σ3 H3 s3 E3=>⟨⟨r',Dd ::ρ1.z,f'⟩,S',δ1,b,T1,E3,h7,fun ρ4 H4 p4 w4=>?_⟩⟩
   have pv4:Pre ⟨r',Dd ::ρ1.z,f'⟩ H' ρ4 H4:=(Pre.same (sy.trans s3)).trans p4
   cases b with
   | true=>
     rw[if_pos rfl] at h8
     refine y4 ?_
     obtain⟨yv,T2,h9,h10⟩:=R3.ab h8
     obtain⟨rs,T3,h11,h12⟩:=R3.ab h10
     cases h12
     refine⟨ρ4,T1,δ1,yv,T2,E3.to p4 w4,h9,fun v5 ρ5 H5 p5 w5 r5=>?_⟩
     have pv5:Pre ⟨r',Dd ::ρ1.z,f'⟩ H' ρ5 H5:=pv4.trans p5
     have hD5:H5 Dd=some (.lst ys):=pv5.zs Dd _ List.mem_cons_self hDl
     have u5:=unZ pv5
     obtain⟨r5',z5,f5⟩:=ρ5
     have ez:z5=Dd ::ρ1.z:=pv5.zz
     subst ez
     have nr:Dd ∉ r5':=(w5.zb Dd List.mem_cons_self).2
     have pw:PW ⟨r5',Dd ::ρ1.z,f5⟩ H5 ⟨r5',Dd ::ρ1.z,f5⟩ (upd H5 Dd (.lst (ys++[v5]))):=⟨fun b o e nb=>⟨by rw[aT (fun(z:b=Dd)=>nb (by rw[z];exact P3.dv.mpr (.inr List.mem_cons_self)))];exact e,nb⟩,fun _ _ h=>h⟩
     refine⟨hD5,by omega,es.length - (i+1),by omega,rfl,hlt,by rw[List.length_append,List.length_singleton];omega,aN,r5',f5,T2,done++[yv],rs,?_,?_,by simp,ax.append ((rd.pre pv5).pw pw) (ax.cons (r5.pw pw) ax.nil),h11⟩
     ·refine⟨fun b o e nb=>⟨by rw[aT (bY e hD)];exact(u5.aZ b o e nb).1,(u5.aZ b o e nb).2⟩,rfl,fun b o hb h=>?_,u5.ext⟩
      rw[aT (bY h hD)]
      exact u5.zs b o hb h
     ·refine⟨w5.len,w5.nd,fun k a o hk ho=>?_,fun b hb=>?_,w5.fz,fun b hb=>?_,w5.fi⟩
      ·have ne:a≠Dd:=fun z=>nr (by rw[←z];exact List.mem_of_getElem? hk)
       rw[aT ne]
       exact(w5.ob k a o hk ho).pw pw
      ·obtain⟨⟨o,ho⟩,n⟩:=w5.zb b hb
       refine⟨?_,n⟩
       by_cases z:b=Dd
       ·subst z;exact⟨_,aN⟩
       ·rw[aT z];exact⟨o,ho⟩
      ·obtain⟨o,ho⟩:=w5.ff b hb
       by_cases z:b=Dd
       ·subst z;exact⟨_,aN⟩
       ·rw[aT z];exact⟨o,ho⟩
   | false=>
     rw[if_neg (by decide)] at h8
     refine zc ?_
     have hD4:H4 Dd=some (.lst ys):=pv4.zs Dd _ List.mem_cons_self hDl
     have u4:=unZ pv4
     obtain⟨r4',z4,f4⟩:=ρ4
     have ez:z4=Dd ::ρ1.z:=pv4.zz
     subst ez
     exact⟨es.length - (i+1),by omega,rfl,hlt,by omega,hD4,r4',f4,T1,done,rest,u4,w4,rfl,rd.pre pv4,h8⟩
 ·have e:i=es.length:=by omega
  subst e
  rw[List.drop_length] at hc
  cases hc
  rw[List.append_nil] at q
  refine .inl ⟨stop,?_⟩
  have back:PW ⟨r',Dd ::ρ1.z,f'⟩ H' ⟨r',ρ1.z,f'⟩ H':=⟨fun b o e nb=>⟨e,fun hb=>nb (by
   rcases P3.dv.mp hb with z | z
   ·exact P3.dv.mpr (.inl z)
   ·exact P3.dv.mpr (.inr (List.mem_cons_of_mem _ z)))⟩,fun _ _ h=>h⟩
  have wB:SW K cl ⟨r',ρ1.z,f'⟩ H' _:=⟨w'.len,w'.nd,fun k a o hk ho=>(w'.ob k a o hk ho).pw back,fun b hb=>w'.zb b (List.mem_cons_of_mem _ hb),w'.fz,w'.ff,w'.fi⟩
  refine q _ ⟨r',ρ1.z,f'⟩ H' (p1.trans pv) wB (rP (.inl ⟨fun hb=>?_, .inl hDl⟩) (rd.pw back))
  rcases P3.dv.mp hb with z | z
  ·exact(w'.zb Dd List.mem_cons_self).2 z.1
  ·exact nDz (P3.dv.mpr (.inr z))
end
end L3
end
section
set_option maxRecDepth 100000
set_option maxHeartbeats 4000000
namespace L3
open PySem PySem.Spec PyProof.Rows L2
section
variable {X:Cx} {cl:Nat→Addr}
theorem sL{scope:Scope}{own:List Str}{kp:List Nat}{kn:List Str}{tg iter elt:Expr}{ifs:List Expr}{it:FA}{t:FG}{c:FB}{f:FX}{pos:Pos}(hc:X.calm=true)(C:bM X scope own kp kn)(hi:DM X cl tg iter it)
 (hg:∀fp s H,DX (bw X scope (own++kn) fp s H) cl tg t) (hif:∀fp s H,mW (bw X scope (own++kn) fp s H) ifs (E6 X.K cl c)) (he:∀fp s H,PX (bw X scope (own++kn) fp s H) cl elt f)
 (hs:∀x,foldedSetIterable iter X.env x=pure x:=by intro _;rfl):PX X cl (.ListComp elt [⟨tg,iter,ifs,0⟩] scope pos) (k3 it t c f own kp):=
 ⟨(xU hc C hi.1 (fun fp s H=>(hg fp s H).1) hif (fun fp s H=>(he fp s H).1) hs).imp fun σ H Q h=>yi h⟩
noncomputable def y8:FB:=fun _ S=> .ok true S
theorem kD:mW X [] (E6 X.K cl y8):=fun pins s σ H Q I ⟨ρ,S,δ,b,S',E,hf,q⟩=>u0 pins s σ H Q I (by cases hf;exact q ρ H (Pre.refl ρ H) E.sw)
theorem zw{e:Expr}{c:FB}(h:Bb X cl e c):mW X [e] (E6 X.K cl c):=vb h.1
theorem Ga{K:PySem.W.Frag}{i:Nat}{f:FX}{D:Ends}{σ:L2.St}{H:Hp}(h:sX K cl (cC i f) D σ H):yR (tX K cl f) (o_ i) D σ H:=by
 obtain⟨ρ,S,δ,o,S',E,hf,q⟩:=h
 obtain⟨v,S1,h1,h2⟩:=R3.ab hf
 obtain⟨hi,h3⟩:=R3.aS h2
 cases h3
 refine⟨ρ,S,δ,v,_,E,h1,fun u ρ1 H1 p1 w1 r1=>?_⟩
 exact q _ ρ1 H1 p1 ((E.to p1 w1).set (by rw[←E.len];exact of_decide_eq_true hi) r1)
theorem ph{i:Nat}{x:Str}{pos' spos:Pos}{scope:Scope}{own:List Str}{kp:List Nat}{kn:List Str}{tg iter elt:Expr}{ifs:List Expr}{it:FA}{t:FG}{c:FB}{f:FX}{pos:Pos}(hc:X.calm=true)
 (hN:X.N.Nodup) (hx:X.N[i]? =some x) (hxl:X.env.scope.names.lookup x=some .local) (C:bM X scope own kp kn) (hi:DM X cl tg iter it)
 (hg:∀fp s H,DX (bw X scope (own++kn) fp s H) cl tg t) (hif:∀fp s H,mW (bw X scope (own++kn) fp s H) ifs (E6 X.K cl c)) (he:∀fp s H,PX (bw X scope (own++kn) fp s H) cl elt f)
 (hsw:swapsWith (.ListComp elt [⟨tg,iter,ifs,0⟩] scope pos) (some (.Name x pos')) spos.line X.env=pure true:=by rfl)
 (hs:∀x,foldedSetIterable iter X.env x=pure x:=by intro _;rfl):PZ X cl (.Assign [.Name x pos'] (.ListComp elt [⟨tg,iter,ifs,0⟩] scope pos) spos) (cC i (k3 it t c f own kp)):=
 ⟨(wQ hc hN hx hxl C hi.1 (fun fp s H=>(hg fp s H).1) hif (fun fp s H=>(he fp s H).1) hsw hs).imp fun D σ H h=>yi (Ga h)⟩
noncomputable def Mh(g:FA):FX:=fun δ S=>(g δ S).bind fun vs S1=>match jm vs with
 | some ds=>R3.bt (decide (ds.length≤sizeLine)) (.ok (.loc S1.length) (S1++[.lst ds]))
 | none=> .no
end
end L3
end
section
set_option maxRecDepth 100000
set_option maxHeartbeats 4000000
namespace L3
open PySem PySem.Spec PyProof.Rows L2
section
variable {X:Cx} {cl:Nat→Addr}
noncomputable def lg(g:List D→R D)(fs:FA):FX:=fun δ S=>(fs δ S).bind fun vs S1=>match jm vs with
 | some ds=>(R3.of (g ds) S1).bind fun d S=> .ok (.d d) S
 | none=> .no
theorem zL{K:PySem.W.Frag}{g:List D→R D}{fs:FA}{σ:L2.St}{H:Hp}{Q:VK}(h:tX K cl (lg g fs) σ H Q) :
 Kl K cl fs σ H fun vs H1=>∃B ds d,(∀a∈B,∃o,H1 a=some o)∧ay K B H1 ds vs∧g ds= .ok d∧∀z H',aK H1 H'→Rep K B H' d z→Q z H':=by
 obtain⟨ρ,S,δ,v,S',E,hf,q⟩:=h
 obtain⟨vs,S1,h1,h2⟩:=R3.ab hf
 split at h2
 ·rename_i ds e
  obtain⟨d,S2,h3,h4⟩:=R3.ab h2
  obtain⟨h5,e5⟩:=R3.of_ok h3
  cases h4
  subst e5
  refine⟨ρ,S,δ,vs,_,E,h1,fun us ρ1 H1 p1 w1 r1=>?_⟩
  rw[gI e] at r1
  exact⟨ρ1.b,ds,d,w1.bs,r1.to,h5,fun z H' s r=>q z ρ1 H' (p1.trans (Pre.same s)) (w1.same s) (by unfold aL;exact r)⟩
 ·cases h2
theorem Bn{g:List D→R D}{x:Str}{id:String}{p pos:Pos}{e:Expr}{es:List Expr}{fs:FA}(hc:cS X (.builtin id) g)(hg:Gl X x)(hm:X.mg x=none)(hv:bootBuiltins x=some (.builtin id))(ha:BV X cl (e ::es) fs)(hn:x≠"__name__":=by decide)(hdb:(x==("__debug__":Str))=false:=by decide)
 (he:starEach (e ::es) X.env=(false,eval e X.env) ::starEach es X.env:=by rfl) (hpl:(backTo pos (starEach es X.env)).any (·.1)=false:=by rfl):PX X cl (.Call (.Name x p) (e ::es) [] pos) (lg g fs):=
 ⟨(lV hc.r hg hm hv ha.1 hn hdb he hpl).imp fun σ H Q h=>zL h⟩
noncomputable def L5(c:FB)(f g:FX):FX:=fun δ S=>(c δ S).bind fun b S=>if b then f δ S else g δ S
theorem ba:∀(δ:DE) (S:aF) (ds:List V3) (S':aF),cN δ S= .ok ds S'→ds.length=0:=fun δ S ds S' h=>by cases h;rfl
theorem ao{f:FX}{g:FA}{n:Nat}(h:∀(δ:DE) (S:aF) (ds:List V3) (S':aF),g δ S= .ok ds S'→ds.length=n):∀(δ:DE) (S:aF) (ds:List V3) (S':aF),aC f g δ S= .ok ds S'→ds.length=n+1:=fun δ S ds S' e=>by
 obtain⟨v,S1,h1,h2⟩:=R3.ab e
 obtain⟨vs,S2,h3,h4⟩:=R3.ab h2
 cases h4
 rw[List.length_cons,h δ S1 vs _ h3]
end
end L3
end
section
set_option maxRecDepth 100000
set_option maxHeartbeats 4000000
namespace L3
open PySem PySem.Spec PyProof.Rows L2
theorem rm{K:PySem.W.Frag}{ρ:P3}{H:Hp}{ds:List V3}{xs:List V}{i:Int}{d:V3}(r:ax K ρ H ds xs)(h:nR ds i=some d):∃x,nR xs i=some x∧aL K ρ H d x:=by
 unfold nR at h ⊢
 rw[←r.length]
 cases e:qj ds.length i with
 | none=>rw [e] at h;cases h
 | some j=>
   rw[e] at h
   exact r.get h
section
variable {X:Cx} {cl:Nat→Addr}
noncomputable def HM(fa fb:FX):FX:=fun δ S=>(fa δ S).bind fun a S1=>(fb δ S1).bind fun b S2=>match a,b with
 | .d x, .d y=>(R3.of (cR x y) S2).bind fun d S=> .ok (.d d) S
 | .lst vs, .d (.int i)=>(match nR vs i with | some v=> .ok v S2 | none=> .no)
 | .tup vs, .d (.int i)=>(match nR vs i with | some v=> .ok v S2 | none=> .no)
 | _,_=> .no
theorem D2{a b:Expr}{fa fb:FX}{pos:Pos}(ha:PX X cl a fa)(hb:PX X cl b fb)(hs:ox b):PX X cl (.Subscript a b pos) (HM fa fb):=by
 refine⟨(Eb (r:=Jf X.K) A2 ha.1 hb.1 hs).imp fun σ H Q ⟨ρ,S,δ,v,S',E,hf,q⟩=>?_⟩
 obtain⟨v1,S1,h1,h2⟩:=R3.ab hf
 obtain⟨v2,S2,h3,h4⟩:=R3.ab h2
 refine⟨ρ,S,δ,v1,S1,E,h1,fun u1 ρ1 H1 p1 w1 r1=>⟨ρ1,S1,δ,v2,S2,E.to p1 w1,h3,fun u2 ρ2 H2 p2 w2 r2=>?_⟩⟩
 have r1':=r1.pre p2
 have p12:=p1.trans p2
 split at h4
 ·rename_i x y
  obtain⟨d,S3,h5,h6⟩:=R3.ab h4
  obtain⟨h7,e7⟩:=R3.of_ok h5
  cases h6
  subst e7
  unfold aL at r1' r2
  unfold cR at h7
  split at h7
  ·split at h7
   ·rename_i e
    cases h7
    obtain⟨p,xs,rfl,l,rs⟩:=Rep.lst.mp r1'
    obtain⟨y,e1,e2⟩:=ma rs e
    exact .inl ⟨p,xs,_,y,rfl,Rep.int.mp r2,l.sq,e1,q y ρ2 H2 p12 w2 (by unfold aL;exact e2)⟩
   ·cases h7
  ·split at h7
   ·rename_i e
    cases h7
    obtain⟨p,xs,rfl,l,rs⟩:=Rep.tup.mp r1'
    obtain⟨y,e1,e2⟩:=ma rs e
    exact .inr (.inl ⟨p,xs,_,y,rfl,Rep.int.mp r2,l.sq,e1,q y ρ2 H2 p12 w2 (by unfold aL;exact e2)⟩)
   ·cases h7
  ·obtain⟨hl,h8⟩:=R.aS h7
   split at h8
   ·rename_i e
    cases h8
    exact .inr (.inr ⟨_,_,_,Rep.str.mp r1',Rep.int.mp r2,of_decide_eq_true hl,e,q _ ρ2 H2 p12 w2 (by unfold aL;exact Rep.str.mpr rfl)⟩)
   ·cases h8
  ·cases h7
 ·split at h4
  ·rename_i e
   cases h4
   unfold aL at r1' r2
   obtain⟨p,xs,rfl,l,rs⟩:=r1'
   obtain⟨y,e1,e2⟩:=rm rs e
   exact .inl ⟨p,xs,_,y,rfl,Rep.int.mp r2,l.sq,e1,q y ρ2 H2 p12 w2 e2⟩
  ·cases h4
 ·split at h4
  ·rename_i e
   cases h4
   unfold aL at r1' r2
   obtain⟨p,xs,rfl,l,rs⟩:=r1'
   obtain⟨y,e1,e2⟩:=rm rs e
   exact .inr (.inl ⟨p,xs,_,y,rfl,Rep.int.mp r2,l.sq,e1,q y ρ2 H2 p12 w2 e2⟩)
  ·cases h4
 ·cases h4
end
end L3
end
section
set_option maxRecDepth 100000
set_option maxHeartbeats 4000000
namespace L3
open PySem PySem.Spec PyProof.Rows L2
section
variable {X:Cx} {cl:Nat→Addr}
structure Me (X:Cx) (cl:Nat→Addr) (e:Expr) (f:FB):Prop where
 go:L2.PW X e (E6 X.K cl f)
noncomputable def Lp(f g:FB):FB:=fun δ S=>(f δ S).bind fun b S=>if b then g δ S else .ok false S
noncomputable def LZ(f g:FB):FB:=fun δ S=>(f δ S).bind fun b S=>if b then .ok true S else g δ S
noncomputable def FR(f:FB):FB:=fun δ S=>(f δ S).bind fun b S=> .ok (!b) S
theorem Dh{a:Expr}{f:FB}{pos:Pos}(ha:Bb X cl a f):Bb X cl (.UnaryOp .Not a pos) (FR f):=⟨(zR ha.1).imp fun σ H Q ⟨ρ,S,δ,k,S',E,hf,q⟩=>by
 obtain⟨c,S1,h1,h2⟩:=R3.ab hf
 cases h2
 exact⟨ρ,S,δ,c,_,E,h1,fun ρ1 H1 p1 w1=>q ρ1 H1 p1 w1⟩⟩
noncomputable def C7(f:FX):FB:=fun δ S=>(f δ S).bind fun v S=>match v with | .d d=>R3.of (qf d) S | _=> .no
theorem Dc{a:Expr}{f:FX}(ha:PX X cl a f)(ht:∀{t:TE},PE X a t→PT X a (fun σ H Q=>t σ H fun x H'=>∃b,Cs X.K x H' b∧Q b H')):Bb X cl a (C7 f):=
 ⟨(ht ha.1).imp fun σ H Q ⟨ρ,S,δ,b,S',E,hf,q⟩=>by
   obtain⟨v,S1,h1,h2⟩:=R3.ab hf
   split at h2
   ·rename_i d
    obtain⟨h3,e3⟩:=R3.of_ok h2
    subst e3
    exact⟨ρ,S,δ, .d d,_,E,h1,fun u ρ1 H1 p1 w1 r1=>⟨b,Bx (by unfold aL at r1;exact r1) h3,q ρ1 H1 p1 w1⟩⟩
   ·cases h2⟩
noncomputable abbrev B0:=DE→aF→R3 (Option Int)
noncomputable def KJ(K:PySem.W.Frag)(cl:Nat→Addr)(f:B0):TO:=fun σ H Q=>∃ρ S δ o S',dW K cl ρ H S σ δ∧f δ S= .ok o S'∧∀ρ' H',Pre ρ H ρ' H'→SW K cl ρ' H' S'→Q o H'
structure GI (X:Cx) (cl:Nat→Addr) (e:Option Expr) (f:B0):Prop where
 go:PO X e (KJ X.K cl f)
noncomputable def sT:B0:=fun _ S=> .ok none S
noncomputable def sI(f:FX):B0:=fun δ S=>(f δ S).bind fun v S=>match v with | .d (.int i)=> .ok (some i) S | _=> .no
theorem tT:GI X cl none sT:=⟨ye.imp fun σ H Q ⟨ρ,S,δ,o,S',E,hf,q⟩=>by cases hf;exact q ρ H (Pre.refl ρ H) E.sw⟩
theorem t7{e:Expr}{f:FX}(h:PX X cl e f):GI X cl (some e) (sI f):=⟨(xJ h.1).imp fun σ H Q ⟨ρ,S,δ,o,S',E,hf,q⟩=>by
 obtain⟨v,S1,h1,h2⟩:=R3.ab hf
 split at h2
 ·rename_i i
  cases h2
  exact⟨ρ,S,δ, .d (.int i),_,E,h1,fun u ρ1 H1 p1 w1 r1=>⟨i,Rep.int.mp (by unfold aL at r1;exact r1),q ρ1 H1 p1 w1⟩⟩
 ·cases h2⟩
noncomputable def JG(f:FX)(fl fh:B0):FX:=fun δ S=>(f δ S).bind fun v S1=>(fl δ S1).bind fun lo S2=>(fh δ S2).bind fun hi S3=>match v with
 | .d d=>(R3.of (DZ d lo hi) S3).bind fun r S=> .ok (.d r) S
 | _=> .no
theorem G3{e:Expr}{lo hi:Option Expr}{f:FX}{fl fh:B0}{p2 pos:Pos}(he:PX X cl e f)(hl:GI X cl lo fl)(hh:GI X cl hi fh):PX X cl (.Subscript e (.Slice lo hi none p2) pos) (JG f fl fh):=by
 refine⟨(oS (wd.or sM) he.1 hl.1 hh.1).imp fun σ H Q ⟨ρ,S,δ,v,S',E,hf,q⟩=>?_⟩
 obtain⟨v1,S1,h1,h2⟩:=R3.ab hf
 obtain⟨l,S2,h3,h4⟩:=R3.ab h2
 obtain⟨h,S3,h5,h6⟩:=R3.ab h4
 refine⟨ρ,S,δ,v1,S1,E,h1,fun u1 ρ1 H1 p1 w1 r1=>⟨ρ1,S1,δ,l,S2,E.to p1 w1,h3,fun ρ2 H2 p2 w2=>⟨ρ2,S2,δ,h,S3,(E.to p1 w1).to p2 w2,h5,fun ρ3 H3 p3 w3=>?_⟩⟩⟩
 have pA:Pre ρ H ρ3 H3:=p1.trans (p2.trans p3)
 have r1':=r1.pre (p2.trans p3)
 split at h6
 ·rename_i d
  obtain⟨r,S4,h7,h8⟩:=R3.ab h6
  obtain⟨h9,e9⟩:=R3.of_ok h7
  cases h8
  subst e9
  unfold aL at r1'
  unfold DZ at h9
  split at h9
  ·obtain⟨hz,h10⟩:=R.aS h9
   cases h10
   exact .inl ⟨_,Rep.str.mp r1',of_decide_eq_true hz,q _ ρ3 H3 pA w3 (by unfold aL;exact Rep.str.mpr rfl)⟩
  ·cases h9
   obtain⟨a,xs,rfl,ls,rs⟩:=Rep.lst.mp r1'
   refine .inr ⟨a,xs,rfl,ls.sq,fun p hp=>q _ ρ3 _ (pA.trans (iF hp)) (w3.same (aD hp)) ?_⟩
   unfold aL
   refine Rep.lst.mpr ⟨p,_,rfl, .lG aN fun ha=>?_,(t6 rs l h).same (aD hp)⟩
   obtain⟨o,ho⟩:=w3.bs p ha
   rw[hp] at ho;cases ho
  ·cases h9
 ·cases h6
end
end L3
end
section
set_option maxRecDepth 100000
set_option maxHeartbeats 4000000
namespace L2
open PySem PySem.Spec PyProof.Rows
section
variable {X:Cx}
noncomputable def mr(t T:String):Bool:=t==T || (t=="bool" && T=="int")
theorem mT{K:PySem.W.Frag}(t T:String)(ht:t∈["NoneType","bool","int","str","list","tuple"])(hT:T∈["bool","int","str","list","tuple"]):PySem.W.kitOne K (.type t) (.type T)=some (mr t T):=by
 simp only[List.mem_cons,List.not_mem_nil,or_false] at ht hT
 rcases ht with rfl | rfl | rfl | rfl | rfl | rfl <;> rcases hT with rfl | rfl | rfl | rfl | rfl <;> rfl
noncomputable def qx(T:String)(f:FD):FD:=fun δ=>(f δ).bind fun d=>match d with | .dct _ _=> .no | _=> .ok (.bl (mr (tyName d) T))
theorem CT{T:Str}{Ts:String}{p p2 pos:Pos}{e:Expr}{f:FD}(he:QD X e f)(hT:Ts∈["bool","int","str","list","tuple"])(hg:Gl X "isinstance")(hm:X.mg "isinstance"=none)(hgT:Gl X T)(hmT:X.mg T=none)(hvT:bootBuiltins T=some (.type Ts))(hnT:T≠"__name__":=by decide)(hdT:(T==("__debug__":Str))=false:=by decide)
 (hs:starEach [e, .Name T p2] X.env=(false,eval e X.env) ::starEach [.Name T p2] X.env:=by rfl) (hpl:(backTo pos (starEach [.Name T p2] X.env)).any (·.1)=false:=by rfl):QD X (.Call (.Name "isinstance" p) [e, .Name T p2] [] pos) (qx Ts f):=by
 have hc:jH X (.builtin "isinstance") (fun xs H Q=>∃B d x,Rep X.K B H d x∧(∀a b,d≠ .dct a b)∧xs=[x, .ty Ts]∧Q (.bl (mr (tyName d) Ts)) H):=by
  intro pins s σ H xs us Q I r h
  obtain⟨B,d,x,rd,ha,rfl,q⟩:=h
  obtain⟨u,w',rfl,ru,rw'⟩:=vals2 r
  cases rw'
  have fin:∀tk,EP X pins σ Q (.bool (mr (tyName d) Ts)) {s with toks:=tk}:=fun tk=>⟨.bl _,H,I.tok _,rfl,q⟩
  cases d with
  | bX=>exact kE I ru (by rw[Rep.bX.mp rd];exact .bX) (mT "NoneType" Ts (by decide) hT) fin
  | bl b=>exact kE I ru (by rw[Rep.bl.mp rd];exact .bl b) (mT "bool" Ts (by decide) hT) fin
  | int i=>exact kE I ru (by rw[Rep.int.mp rd];exact .int i) (mT "int" Ts (by decide) hT) fin
  | str z=>exact kE I ru (by rw[Rep.str.mp rd];exact .str z) (mT "str" Ts (by decide) hT) fin
  | lst es=>
    obtain⟨a,ys,rfl,l,_⟩:=Rep.lst.mp rd
    cases(show u=Value.ref a from ru)
    obtain⟨its2,n2,r2,h1,z2⟩:=I.D0 l
    exact PySem.W.kia_one PySem.W.kitx_list I.mQ ⟨_,h1,rfl⟩ (mT "list" Ts (by decide) hT) (fun z=>nomatch z) fin
  | tup es=>
    obtain⟨a,ys,rfl,l,_⟩:=Rep.tup.mp rd
    cases(show u=Value.ref a from ru)
    obtain⟨its,rv,p,hz⟩:=I.tuple l.sq
    obtain⟨o,h1,h2,_⟩:=p
    exact PySem.W.kia_one PySem.W.kitx_tuple I.mQ ⟨o,h1,h2⟩ (mT "tuple" Ts (by decide) hT) (fun z=>nomatch z) fin
  | dct a b=>exact absurd rfl (ha a b)
 refine⟨(lV hc hg hm boot_isinstance (dz he.1 (dz (Ck (v:= .ty Ts) hgT hmT hvT rfl hnT hdT) f7) hs) (by decide) (by decide) hs hpl).imp fun σ H Q ⟨Z,B,δ,d,E,hf,q⟩=>?_⟩
 obtain⟨d1,h1,h2⟩:=R.ab hf
 have key:(∀a b,d1≠ .dct a b)∧d= .bl (mr (tyName d1) Ts):=by
  cases d1 with
  | dct a b=>cases h2
  | _=>cases h2;exact⟨fun _ _ z=>(by cases z),rfl⟩
 obtain⟨k1,rfl⟩:=key
 exact⟨Z,B,δ,d1,E,h1,fun v H1 s1 r1=>⟨B,d1,v,r1,k1,rfl,q _ H1 s1 (Rep.bl.mpr rfl)⟩⟩
noncomputable def nList(f:FD):aq→R (List D):=fun δ=>(f δ).bind fun d=>match d with | .lst ds=> .ok ds | .tup ds=> .ok ds | _=> .no
end
end L2
namespace L3
open PySem PySem.Spec PyProof.Rows L2
theorem bW{P:Program}{w:World}{K:PySem.W.Frag}{mg:Str→Option Value}{base:Heap}{cl:Nat→Addr}{x qual:Str}{st:Stmt}{f:Addr}{fd:FuncData}{N ps:List Str}{k:Nat}{F:FZ}{b:List Stmt}{sc:Scope}(hb:aj st=b)(hs:ae st=sc)(Fn:xQ K x qual st f fd)(S:bf N ps sc)
 (hbody:∀(cdv:Value) (A:Around) (outer:List Env) (s:Shared) (H:Hp) (E:XK),dS k (A.deeper (envOfC qual sc s.heap.objs.size f cdv))→
   y7 (pe qk P w K mg base N qual sc f cdv A outer s H E).C3 cl b F):f_ P w K mg base qk (k+1) f fd ps (zo K cl ps.length (l6 N F)):=by
 subst hb hs
 exact B_ Fn S hbody
theorem aH.p{P:Program}{w:World}{K:PySem.W.Frag}{mg:Str→Option Value}{base:Heap}{cl:Nat→Addr}{k:Nat}{x:Str}{n:Nat}{N:List Str}{F:FZ}(C:aH P w K mg base cl k x n (l6 N F)):aH P w K mg base cl k x n (mF N F):=
 let⟨f,fd,ps,F,h⟩:=C;⟨f,fd,ps,F.imp fun _ _ _ _ h=>wM h,h⟩
noncomputable def Ir(N:List Str)(F:FZ):List D→R D:=fun ds=>match mF N F (ds.map .d) [] with
 | .ok (.d d) []=>R.bt d.atom (.ok d)
 | _=> .no
theorem F3{K:PySem.W.Frag}{cl:Nat→Addr}{N:List Str}{F:FZ}{n:Nat}{vs:List V}{H:Hp}{Q:VK}{E:XK}(h:A1 K n (Ir N F) vs H Q E):zo K cl n (l6 N F) vs H Q E:=by
 obtain⟨hl,B,ds,d,hb,r,hg,q⟩:=h
 unfold Ir at hg
 split at hg
 ·rename_i d' e
  obtain⟨ha,h2⟩:=R.aS hg
  cases h2
  have r0:ay K (⟨[],[],[]⟩:P3).b H ds vs:=r.aZ fun b o e _=>⟨e,by simp [P3.b]⟩
  refine wM ⟨hl,⟨[],[],[]⟩,[],ds.map .d, .d d,[],⟨rfl,fun i j a hi=>by simp at hi,fun k a o hk=>by simp at hk,fun b hb=>by simp at hb,fun k a hk=>by simp at hk,fun b hb=>by simp at hb,fun k a hk=>by simp at hk⟩,ax.of r0,e,fun u ρ' H' p w' r'=>q u H' (fun b o eb=>?_) ?_⟩
  ·exact(p.aZ b o eb (by simp [P3.b])).1
  ·unfold aL at r'
   exact r'.atom ha
 ·cases hg
section
variable {X:Cx} {cl:Nat→Addr}
theorem Bz{a:Expr}{f:FX}(ha:PX X cl a f)(he:∀whole,isTrue a X.env whole=(do let v ←whole;standAt a.pos;holding [v] (truthy v)):=by intro _;rfl):Bb X cl a (C7 f):=Dc ha fun h=>uP h he
theorem ug{g:List D→R D}{k j n:Nat}{x:Str}{p pos:Pos}{e:Expr}{es:List Expr}{fs:FA}(C:Callee X.prog X.w X.K X.mg X.base k x n g)(hr:dS j X.A)(hkj:k≤j)(hg:Gl X x)(ha:BV X cl (e ::es) fs)
 (hn:∀δ S ds S',fs δ S= .ok ds S'→ds.length=n) (hdb:(x==("__debug__":Str))=false:=by decide) (he:starEach (e ::es) X.env=(false,eval e X.env) ::starEach es X.env:=by rfl) (hpl:(backTo pos (starEach es X.env)).any (·.1)=false:=by rfl) :
 PX X cl (.Call (.Name x p) (e ::es) [] pos) (lg g fs):=by
 obtain⟨f,fd,ps,F,hm,hk,hb⟩:=C
 refine⟨(sd F (hr.mono hkj) hg hm hk hb .nil ue ha.1 hdb he hpl).imp fun σ H Q ⟨ρ,S,δ,v,S',E,hf,q⟩=>?_⟩
 obtain⟨vs,S1,h1,h2⟩:=R3.ab hf
 split at h2
 ·rename_i ds e
  obtain⟨d,S2,h3,h4⟩:=R3.ab h2
  obtain⟨h5,e5⟩:=R3.of_ok h3
  cases h4
  subst e5
  refine⟨ρ,S,δ,vs,_,E,h1,fun us ρ1 H1 p1 w1 r1=>?_⟩
  have hl:=hn δ S vs _ h1
  rw[gI e] at r1
  show A1 X.K n g (us++[]) H1 Q E0
  rw[List.append_nil]
  exact⟨by rw[←r1.length,←gI e];exact hl,ρ1.b,ds,d,w1.bs,r1.to,h5,fun z H' s r=>q z ρ1 H' (p1.trans (Pre.same s)) (w1.same s) (by unfold aL;exact r)⟩
 ·cases h2
noncomputable def Ju(f:FX):FA:=fun δ S=>(f δ S).bind fun v S=>match v with | .d (.tup ds)=> .ok (ds.map .d) S | .tup vs=> .ok vs S | _=> .no
end
end L3
end
section
set_option maxRecDepth 100000
set_option maxHeartbeats 4000000
namespace L3
open PySem PySem.Spec PyProof.Rows L2
noncomputable def W3{α:Type}(r:R3 α)(Q:α→aF→Prop):Prop:=∃a S,r= .ok a S∧Q a S
section
variable {α β:Type} {Q Q':α→aF→Prop} {S:aF} {δ:DE}
theorem W3.ok{a:α}(h:Q a S):W3 (.ok a S) Q:=⟨a,S,rfl,h⟩
theorem W3.bind{Q:β→aF→Prop}{r:R3 α}{f:α→aF→R3 β}(h:W3 r fun a S=>W3 (f a S) Q):W3 (r.bind f) Q:=by
 obtain⟨a,S1,e1,b,S2,h2,q⟩:=h
 exact⟨b,S2,by rw[e1];exact h2,q⟩
theorem W3.mono{r:R3 α}(h:W3 r Q)(m:∀a S,Q a S→Q' a S):W3 r Q':=let⟨a,S,e,q⟩:=h;⟨a,S,e,m a S q⟩
theorem W3.wh{c:Bool}{r:R3 α}(hc:c=true)(h:W3 r Q):W3 (R3.bt c r) Q:=by rw[hc];exact h
theorem W3.of{r:R α}{a:α}(e:r= .ok a)(h:Q a S):W3 (R3.of r S) Q:=by rw[e];exact⟨a,S,rfl,h⟩
end
section
variable {S:aF} {δ:DE} {QV:V3→aF→Prop} {QB:Bool→aF→Prop} {QA:List V3→aF→Prop} {QO:Ou→aF→Prop}
theorem cF{f:FD}{d:D}(e:f (down δ)= .ok d)(h:QV (.d d) S):W3 (xP f δ S) QV:=W3.bind (W3.of e (W3.ok h))
theorem BQ{f:FD}{d:D}(e:f (cT S δ)= .ok d)(ha:uF d=true)(h:QV (.d d) S):W3 (xT f δ S) QV:=W3.bind (W3.of e (W3.wh ha (W3.ok h)))
theorem lU{f:aq→R Bool}{b:Bool}(e:f (down δ)= .ok b)(h:QB b S):W3 (bP f δ S) QB:=W3.of e h
theorem Jl{f:aq→R Bool}{b:Bool}(e:f (cT S δ)= .ok b)(h:QB b S):W3 (bT f δ S) QB:=W3.of e h
theorem w_var{i:Nat}{v:V3}(e:δ[i]? =some (some v))(h:QV v S):W3 (cj i δ S) QV:=by unfold cj;rw [e];exact W3.ok h
theorem j6{f:aq→R (List D)}{ds:List D}(e:f (down δ)= .ok ds)(h:QV (.loc S.length) (S++[.lst ds])):W3 (m4 f δ S) QV:=W3.bind (W3.of e (W3.ok h))
theorem cH(h:QA [] S):W3 (cN δ S) QA:=W3.ok h
theorem aI{f:FX}{g:FA}(h:W3 (f δ S) fun v S1=>W3 (g δ S1) fun vs S2=>QA (v ::vs) S2):W3 (aC f g δ S) QA:=W3.bind (h.mono fun _ _ h=>W3.bind (h.mono fun _ _ h=>W3.ok h))
theorem rC{g:FA}(h:W3 (g δ S) fun vs S1=>vs.length≤sizeLine∧QV (ke vs) S1):W3 (tE g δ S) QV:=W3.bind (h.mono fun _ _ h=>W3.wh (decide_eq_true h.1) (W3.ok h.2))
theorem Hi{g:FA}(h:W3 (g δ S) fun vs S1=>vs.length≤sizeLine∧QV (hJ vs) S1):W3 (FP g δ S) QV:=W3.bind (h.mono fun _ _ h=>W3.wh (decide_eq_true h.1) (W3.ok h.2))
theorem Cw{g:D→D→R D}{fa fb:FX}(h:W3 (fa δ S) fun a S1=>W3 (fb δ S1) fun b S2=>∃x y d,a= .d x∧b= .d y∧g x y= .ok d∧QV (.d d) S2):W3 (x2 g fa fb δ S) QV:=
 W3.bind (h.mono fun _ _ h=>W3.bind (h.mono fun _ _ ⟨_,_,_,e1,e2,e3,q⟩=>by subst e1 e2;exact W3.bind (W3.of e3 (W3.ok q))))
theorem Gg{g:D→D→R D}{fa fb:FX}(h:W3 (fa δ S) fun a S1=>W3 (fb δ S1) fun b S2=>∃x y k,a= .d x∧b= .d y∧g x y= .ok (.bl k)∧QB k S2):W3 (Hy g fa fb δ S) QB:=
 W3.bind (Cw (h.mono fun _ _ h=>h.mono fun _ _ ⟨x,y,k,e1,e2,e3,q⟩=>⟨x,y, .bl k,e1,e2,e3,W3.ok q⟩))
theorem JA{fa fb:FX}(h:W3 (fa δ S) fun a S1=>W3 (fb δ S1) fun b S2=>∃x y d,a= .d x∧b= .d y∧cR x y= .ok d∧QV (.d d) S2):W3 (HM fa fb δ S) QV:=
 W3.bind (h.mono fun _ _ h=>W3.bind (h.mono fun _ _ ⟨_,_,_,e1,e2,e3,q⟩=>by subst e1 e2;exact W3.bind (W3.of e3 (W3.ok q))))
theorem JS{f:FX}{fl fh:B0}(h:W3 (f δ S) fun v S1=>W3 (fl δ S1) fun lo S2=>W3 (fh δ S2) fun hi S3=>∃x d,v= .d x∧DZ x lo hi= .ok d∧QV (.d d) S3):W3 (JG f fl fh δ S) QV:=
 W3.bind (h.mono fun _ _ h=>W3.bind (h.mono fun _ _ h=>W3.bind (h.mono fun _ _ ⟨_,_,e1,e3,q⟩=>by subst e1;exact W3.bind (W3.of e3 (W3.ok q)))))
theorem GZ{QP:Option Int→aF→Prop}(h:QP none S):W3 (sT δ S) QP:=W3.ok h
theorem GS{QP:Option Int→aF→Prop}{f:FX}(h:W3 (f δ S) fun v S1=>∃i,v= .d (.int i)∧QP (some i) S1):W3 (sI f δ S) QP:=W3.bind (h.mono fun _ _ ⟨_,e,q⟩=>by subst e;exact W3.ok q)
theorem eK{g:List V3→aF→R3 V3}{fs:FA}(h:W3 (fs δ S) fun vs S1=>W3 (g vs S1) QV):W3 (df g fs δ S) QV:=W3.bind h
theorem tw{g:List D→R D}{fs:FA}(h:W3 (fs δ S) fun vs S1=>∃ds d,vs=ds.map .d∧g ds= .ok d∧QV (.d d) S1):W3 (lg g fs δ S) QV:=
 W3.bind (h.mono fun _ _ ⟨ds,_,e1,e2,q⟩=>by subst e1;rw [qd];exact W3.bind (W3.of e2 (W3.ok q)))
theorem zC{it:FA}{t:FG}{c:FB}{f:FX}{own:List Str}{kp:List Nat}(h:W3 (it δ S) fun vs S1=>vs.length≤sizeLine∧W3 (j3 t c f (fY own kp δ) vs S1) fun ys S2=>QV (hJ ys) S2):W3 (k3 it t c f own kp δ S) QV:=
 W3.bind (h.mono fun _ _ h=>W3.wh (decide_eq_true h.1) (W3.bind (h.2.mono fun _ _ h=>W3.ok h)))
theorem Ha{f:FX}(h:W3 (f δ S) fun v S1=>∃d b,v= .d d∧qf d= .ok b∧QB b S1):W3 (C7 f δ S) QB:=W3.bind (h.mono fun _ _ ⟨_,_,e,e2,q⟩=>by subst e;exact W3.of e2 q)
theorem w_not{f:FB}(h:W3 (f δ S) fun b S1=>QB (!b) S1):W3 (FR f δ S) QB:=W3.bind (h.mono fun _ _ h=>W3.ok h)
theorem aY{F G:FZ}(h:W3 (F δ S) fun o S1=>∃δ1,o= .nx δ1∧W3 (G δ1 S1) QO):W3 (bu F G δ S) QO:=W3.bind (h.mono fun _ _ ⟨_,e,h⟩=>by subst e;exact h)
theorem Ai{F G:FZ}(h:W3 (F δ S) fun o S1=>∃v,o= .rt v∧QO (.rt v) S1):W3 (bu F G δ S) QO:=W3.bind (h.mono fun _ _ ⟨_,e,h⟩=>by subst e;exact W3.ok h)
theorem bC{i:Nat}{f:FX}(hi:i < δ.length)(h:W3 (f δ S) fun v S1=>QO (.nx (δ.set i (some v))) S1):W3 (cC i f δ S) QO:=W3.bind (h.mono fun _ _ h=>W3.wh (decide_eq_true hi) (W3.ok h))
theorem eA{f:FX}(h:W3 (f δ S) fun v S1=>QO (.rt v) S1):W3 (gz f δ S) QO:=W3.bind (h.mono fun _ _ h=>W3.ok h)
theorem kN{c:FB}{F G:FZ}(h:W3 (c δ S) fun b S1=>if b then W3 (F δ S1) QO else W3 (G δ S1) QO):W3 (wm c F G δ S) QO:=W3.bind (h.mono fun b _ h=>by cases b <;> exact h)
theorem G9{f:FX}{t:FG}(h:W3 (f δ S) fun v S1=>∃δ1,t v δ=some δ1∧QO (.nx δ1) S1):W3 (FN f t δ S) QO:=W3.bind (h.mono fun _ _ ⟨_,e,q⟩=>by rw[e];exact W3.ok q)
theorem h_(h:QO (.nx δ) S):W3 (mh δ S) QO:=W3.ok h
theorem lu{f:aq→R (List D)}{ds:List D}(e:f (down δ)= .ok ds)(h:QA (ds.map .d) S):W3 (iP f δ S) QA:=W3.bind (W3.of e (W3.ok h))
theorem Fg{f:FX}(h:W3 (f δ S) fun v S1=>∃n:Nat,v= .d (.int n)∧n < 1000000∧QA ((gp 0 n).map .d) S1):W3 (uj f δ S) QA:=W3.bind (h.mono fun _ _ ⟨n,e,hn,q⟩=>by
 subst e
 refine W3.wh (decide_eq_true ⟨by omega,by omega⟩) (W3.ok ?_)
 rw[Int.toNat_natCast];exact q)
theorem ot{f:FX}(h:W3 (f δ S) fun v S1=>∃ds,v= .d (.lst ds)∧QA (ds.map .d) S1):W3 (uJ f δ S) QA:=W3.bind (h.mono fun _ _ ⟨n,e,q⟩=>by subst e;exact W3.ok q)
theorem Cb{f:FX}(h:W3 (f δ S) fun v S1=>∃vs,v= .lst vs∧QA vs S1):W3 (uJ f δ S) QA:=W3.bind (h.mono fun _ _ ⟨n,e,q⟩=>by subst e;exact W3.ok q)
theorem fA{it:FA}{t:FG}{F:FZ}(h:W3 (it δ S) fun vs S1=>W3 (iB t F vs δ S1) QO):W3 (iq it t F δ S) QO:=W3.bind h
theorem oH{i k:Nat}{f:FX}(hk:δ[i]? =some (some (.loc k)))(h0:∃ds,S[k]? =some (.lst ds))(h:W3 (f δ S) fun v S1=>∃d ds,v= .d d∧S1[k]? =some (.lst ds)∧ds.length < sizeLine∧QO (.nx δ) (S1.set k (.lst (ds++[d])))):W3 (mG i f δ S) QO:=by
 obtain⟨es,h0⟩:=h0
 unfold mG
 have e1:eO δ i=some k:=by unfold eO;rw [hk]
 have e2:cq S k=some es:=by unfold cq;simp only[h0]
 rw[e1];show W3 (match cq S k with | none=>_ | some _=>_) _
 rw[e2]
 refine W3.bind (h.mono fun v S1 ⟨d,ds,e,h1,hl,q⟩=>?_)
 subst e
 have e3:cq S1 k=some ds:=by unfold cq;simp only[h1]
 show W3 (match cq S1 k with | some ds=>_ | none=>_) _
 rw[e3]
 exact W3.wh (decide_eq_true hl) (W3.ok q)
theorem xI{fo fi fe:FX}(h:W3 (fe δ S) fun v S1=>W3 (fo δ S1) fun o S2=>W3 (fi δ S2) fun j S3=>∃d k n ds m,v= .d d∧o= .loc k∧j= .d (.int n)∧S3[k]? =some (.lst ds)∧qj ds.length n=some m∧QO (.nx δ) (S3.set k (.lst (ds.set m d)))):W3 (yz fo fi fe δ S) QO:=
 W3.bind (h.mono fun _ _ h=>W3.bind (h.mono fun _ _ h=>W3.bind (h.mono fun _ S3 ⟨d,k,n,ds,m,e1,e2,e3,h1,h2,q⟩=>by
  subst e1 e2 e3
  have e3:cq S3 k=some ds:=by unfold cq;simp only[h1]
  show W3 (match cq S3 k with | some ds=>_ | none=>_) _
  rw[e3]
  show W3 (match qj ds.length n with | some m=>_ | none=>_) _
  rw[h2]
  exact W3.ok q)))
theorem o3{t:FG}{body:FZ}:∀(vs:List V3) (n:Nat) (P:Nat→DE→aF→Prop) {δ:DE} {S:aF},P n δ S→
 (∀i v δ S,vs[i]? =some v→P (n+i) δ S→∃δ1,t v δ=some δ1∧W3 (body δ1 S) fun o S1=>∃δ2,o= .nx δ2∧P (n+i+1) δ2 S1)→W3 (iB t body vs δ S) fun o S1=>∃δ2,o= .nx δ2∧P (n+vs.length) δ2 S1
 | [],n,P,δ,S,h0,_=>W3.ok ⟨δ,rfl,h0⟩
 | v ::vs,n,P,δ,S,h0,hs=>by
   obtain⟨δ1,e1,o,S1,e2,δ2,rfl,p2⟩:=hs 0 v δ S rfl h0
   have ih:=o3 vs (n+1) P p2 (fun i v' δ' S' hi hp=>by
    have:=hs (i+1) v' δ' S' (by simpa using hi) (by rw[show n+(i+1)=n+1+i by omega];exact hp)
    rw[show n+(i+1)+1=n+1+i+1 by omega] at this
    exact this)
   rw[show n+1+vs.length=n+(v ::vs).length by rw[List.length_cons];omega] at ih
   unfold iB
   rw[e1]
   refine W3.bind ⟨_,_,e2,?_⟩
   exact ih
theorem bH{t:FG}{body:FZ}{vs:List V3}(P:Nat→DE→aF→Prop){δ:DE}{S:aF}(h0:P 0 δ S)
 (hs:∀i v δ S,vs[i]? =some v→P i δ S→∃δ1,t v δ=some δ1∧W3 (body δ1 S) fun o S1=>∃δ2,o= .nx δ2∧P (i+1) δ2 S1):W3 (iB t body vs δ S) fun o S1=>∃δ2,o= .nx δ2∧P vs.length δ2 S1:=by
 have:=o3 (t:=t) (body:=body) vs 0 P h0 (fun i v δ S hi hp=>by simpa using hs i v δ S hi (by simpa using hp))
 simpa using this
theorem pk{t:FG}{c:FB}{f:FX}{δ:DE}:∀(vs:List V3) (n:Nat) (P:Nat→List V3→aF→Prop) {ys:List V3} {S:aF},P n ys S→
 (∀i v ys S,vs[i]? =some v→P (n+i) ys S→∃δ1,t v δ=some δ1∧W3 (c δ1 S) fun b S1=>if b then W3 (f δ1 S1) fun y S2=>P (n+i+1) (ys++[y]) S2 else P (n+i+1) ys S1)→W3 (j3 t c f δ vs S) fun zs S1=>P (n+vs.length) (ys++zs) S1
 | [],n,P,ys,S,h0,_=>W3.ok (by rw[List.append_nil];exact h0)
 | v ::vs,n,P,ys,S,h0,hs=>by
   obtain⟨δ1,e1,b,S1,e2,h2⟩:=hs 0 v ys S rfl h0
   have ih:∀{ys' S'},P (n+1) ys' S'→W3 (j3 t c f δ vs S') fun zs S1=>P (n+(v ::vs).length) (ys'++zs) S1:=fun {ys' S'} p=>by
    have:=pk (t:=t) (c:=c) (f:=f) (δ:=δ) vs (n+1) P p (fun i v' ys' S' hi hp=>by
     have:=hs (i+1) v' ys' S' (by simpa using hi) (by rw[show n+(i+1)=n+1+i by omega];exact hp)
     rw[show n+(i+1)+1=n+1+i+1 by omega] at this
     exact this)
    rw[show n+1+vs.length=n+(v ::vs).length by rw[List.length_cons];omega] at this
    exact this
   unfold j3
   rw[e1]
   refine W3.bind ⟨b,S1,e2,?_⟩
   cases b with
   | true=>
     rw[if_pos rfl] at h2 ⊢
     exact W3.bind (h2.mono fun y S2 p=>W3.bind ((ih p).mono fun zs S3 q=>W3.ok (by rw[List.append_assoc] at q;exact q)))
   | false=>rw [if_neg (by decide)] at h2 ⊢;exact ih h2
theorem qR{t:FG}{c:FB}{f:FX}{δ:DE}{vs:List V3}(P:Nat→List V3→aF→Prop){S:aF}(h0:P 0 [] S)
 (hs:∀i v ys S,vs[i]? =some v→P i ys S→∃δ1,t v δ=some δ1∧W3 (c δ1 S) fun b S1=>if b then W3 (f δ1 S1) fun y S2=>P (i+1) (ys++[y]) S2 else P (i+1) ys S1):W3 (j3 t c f δ vs S) fun zs S1=>P vs.length zs S1:=by
 have:=pk (t:=t) (c:=c) (f:=f) (δ:=δ) vs 0 P h0 (fun i v ys S hi hp=>by simpa using hs i v ys S hi (by simpa using hp))
 simpa using this
theorem yh{QB:Bool→aF→Prop}(h:QB true S):W3 (y8 δ S) QB:=W3.ok h
theorem vc{N:List Str}{F:FZ}{vs:List V3}{δ:DE}(e:bE N vs=δ)(h:W3 (F δ S) fun o S1=>∃v,o= .rt v∧QV v S1):W3 (l6 N F vs S) QV:=by
 subst e
 exact W3.bind (h.mono fun _ _ ⟨_,e,q⟩=>by subst e;exact W3.ok q)
noncomputable def Kd(S:aF):Prop:=∀o∈S,∃ds,o=SO.lst ds
end
end L3
namespace L3
open PySem PySem.Spec PyProof.Rows L2
section
variable {S:aF} {δ:DE} {QV:V3→aF→Prop}
theorem oG{it:FA}{t:FG}{c:FB}{f:FX}{own:List Str}{kp:List Nat}(P:Nat→List D→aF→Prop)(h:W3 (it δ S) fun vs S1=>vs.length≤sizeLine∧P 0 [] S1∧
 (∀i v ds S2,vs[i]? =some v→P i ds S2→∃δ1,t v (fY own kp δ)=some δ1∧W3 (c δ1 S2) fun b S3=>if b then W3 (f δ1 S3) fun y S4=>∃d,y= .d d∧P (i+1) (ds++[d]) S4 else P (i+1) ds S3)∧
 ∀ds S2,P vs.length ds S2→QV (.d (.lst ds)) S2):W3 (k3 it t c f own kp δ S) QV:=by
 refine zC (h.mono fun vs S1 ⟨hl,h0,hs,hq⟩=>⟨hl,?_⟩)
 refine(qR (fun i ys S=>∃ds,ys=ds.map V3.d∧P i ds S) ⟨[],rfl,h0⟩ ?_).mono fun zs S2 ⟨ds,e,p⟩=>?_
 ·rintro i v ys S2 hv ⟨ds,rfl,p⟩
  obtain⟨δ1,e1,h1⟩:=hs i v ds S2 hv p
  refine⟨δ1,e1,h1.mono fun b S3 h3=>?_⟩
  cases b with
  | true=>
    rw[if_pos rfl] at h3 ⊢
    exact h3.mono fun y S4 ⟨d,e,p⟩=>by subst e;exact⟨ds++[d],by simp,p⟩
  | false=>rw [if_neg (by decide)] at h3 ⊢;exact⟨ds,rfl,h3⟩
 ·subst e
  unfold hJ
  rw[qd]
  exact hq ds S2 p
structure lr (n:Nat) (d:D):Prop where
 pl:eL d=true
 ly:(toPy d).canLay0=true
 dp:(toPy d).depth≤n
theorem lr.int(i:Int):lr 0 (.int i):=⟨by unfold eL;rfl,by unfold toPy PyData.canLay0;rfl,by unfold toPy PyData.depth;omega⟩
theorem lr.all{n:Nat}:∀{ds:List D},(∀d∈ds,lr n d)→iG ds=true∧PyData.canLayAll0 (jJ ds)=true∧PyData.depthAll (jJ ds)≤n
 | [],_=>⟨by unfold iG;rfl,by unfold jJ PyData.canLayAll0;rfl,by unfold jJ PyData.depthAll;omega⟩
 | d ::ds,h=>by
   obtain⟨h1,h2,h3⟩:=lr.all (ds:=ds) fun x hx=>h x (List.mem_cons_of_mem _ hx)
   have f:=h d List.mem_cons_self
   refine⟨by unfold iG;rw [f.pl,h1];rfl,by unfold jJ PyData.canLayAll0;rw [f.ly,h2];rfl,?_⟩
   unfold jJ PyData.depthAll
   have:=f.dp
   omega
theorem lr.lst{n:Nat}{ds:List D}(h:∀d∈ds,lr n d):lr (n+1) (.lst ds):=by
 obtain⟨h1,h2,h3⟩:=lr.all h
 exact⟨by unfold eL;exact h1,by unfold toPy PyData.canLay0;exact h2,by unfold toPy PyData.depth;omega⟩
theorem lr.tup{n:Nat}{ds:List D}(h:∀d∈ds,lr n d):lr (n+1) (.tup ds):=by
 obtain⟨h1,h2,h3⟩:=lr.all h
 exact⟨by unfold eL;exact h1,by unfold toPy PyData.canLay0;exact h2,by unfold toPy PyData.depth;omega⟩
theorem lr.sh{n:Nat}{d:D}(h:lr n d)(hn:n≤64):SeqAt.shaped (toPy d)=true:=by
 unfold SeqAt.shaped
 rw[h.ly,decide_eq_true (Nat.le_trans h.dp hn)]
 rfl
theorem ED{d e:List D}:BR (.lst d) (.lst e)=R.bt (eL (.lst d) && eL (.lst e) && SeqAt.shaped (toPy (.lst d)) && SeqAt.shaped (toPy (.lst e))) (.ok (PyData.eqv (toPy (.lst d)) (toPy (.lst e)))):=rfl
theorem Ey{d e:List D}:BR (.tup d) (.tup e)=R.bt (eL (.tup d) && eL (.tup e) && SeqAt.shaped (toPy (.tup d)) && SeqAt.shaped (toPy (.tup e))) (.ok (PyData.eqv (toPy (.tup d)) (toPy (.tup e)))):=rfl
theorem lr.eqT{n:Nat}{ds:List D}(h:lr n (.tup ds))(hn:n≤64):BR (.tup ds) (.tup ds)= .ok true:=by
 rw[Ey,h.pl,h.sh hn,SeqAt.eqv_refl _ h.ly]
 rfl
theorem lr.K9{n:Nat}{ds:List D}(h:lr n (.lst ds))(hn:n≤64):BR (.lst ds) (.lst ds)= .ok true:=by
 rw[ED,h.pl,h.sh hn,SeqAt.eqv_refl _ h.ly]
 rfl
end
end L3
namespace L3
open PySem PySem.Spec PyProof.Rows L2
theorem wb{α:Type}(ds:List α){n:Int}(h:0≤n):L2.cutD ds none (some n)=ds.take n.toNat:=by
 obtain⟨k,rfl⟩:=Int.eq_ofNat_of_zero_le h
 unfold L2.cutD
 rw[HT.oX,HT.om,List.drop_zero,Nat.sub_zero,Int.toNat_natCast]
 by_cases hk:k≤ds.length
 ·rw[Nat.min_eq_left hk]
 ·rw[Nat.min_eq_right (by omega),List.take_of_length_le (Nat.le_refl _),List.take_of_length_le (by omega)]
theorem Ay{α:Type}(ds:List α){n:Int}(h:0≤n):L2.cutD ds (some n) none=ds.drop n.toNat:=by
 obtain⟨k,rfl⟩:=Int.eq_ofNat_of_zero_le h
 unfold L2.cutD
 rw[HT.oX,HT.om,Int.toNat_natCast,List.take_of_length_le (by rw[List.length_drop];omega)]
 by_cases hk:k≤ds.length
 ·rw[Nat.min_eq_left hk]
 ·rw[Nat.min_eq_right (by omega),List.drop_of_length_le (Nat.le_refl _),List.drop_of_length_le (by omega)]
end L3
end
section
set_option maxRecDepth 100000
set_option maxHeartbeats 4000000
namespace L2
open PySem PySem.Spec PyProof.Rows
section
variable {X:Cx}
noncomputable def zV:D→Bool | .bX=>true | _=>false
noncomputable def ID(d e:D):R D:=match e with | .bX=> .ok (.bl (zV d)) | _=> .no
noncomputable def ET(d e:D):R D:=match e with | .bX=> .ok (.bl (!zV d)) | _=> .no
theorem xq{K:PySem.W.Frag}{B:List Addr}{H:Hp}{d:D}{x:V}(r:Rep K B H d x):decide (x= .bX)=zV d:=by
 cases d with
 | bX=>rw [Rep.bX.mp r];rfl
 | bl b=>rw [Rep.bl.mp r];rfl
 | int b=>rw [Rep.int.mp r];rfl
 | str b=>rw [Rep.str.mp r];rfl
 | lst ds=>obtain⟨a,xs,rfl,_⟩:=Rep.lst.mp r;rfl
 | tup ds=>obtain⟨a,xs,rfl,_⟩:=Rep.tup.mp r;rfl
 | dct ks ds=>unfold Rep at r;obtain⟨a,xs,rfl,_⟩:=r;rfl
theorem Jj:iT X (compareOp .Is) ID:=iT.of Fs fun B H da db d x y Q _ ra rb hg q=>by
 unfold ID at hg
 split at hg
 ·cases hg
  exact⟨Rep.bX.mp rb,by rw[xq ra];exact q _ H (aK.refl H) (Rep.bl.mpr rfl)⟩
 ·cases hg
theorem HH:iT X (compareOp .IsNot) ET:=iT.of CP fun B H da db d x y Q _ ra rb hg q=>by
 unfold ET at hg
 split at hg
 ·cases hg
  exact⟨Rep.bX.mp rb,by rw[xq ra];exact q _ H (aK.refl H) (Rep.bl.mpr rfl)⟩
 ·cases hg
theorem yt:jH X (.type "int") (fun xs H Q=>∃x n,xs=[.str x]∧PySem.intText? x=some n∧x.length≤640∧Q (.int n) H):=by
 intro pins s σ H xs us Q I r h
 obtain⟨x,n,rfl,h1,h2,q⟩:=h
 obtain⟨u,rfl,ru⟩:=vals1 r
 obtain⟨t,rfl⟩:=ru
 exact PySem.W.KIN.call_text h1 h2 ⟨.int n,H,I.tok _,⟨_,rfl⟩,q⟩
noncomputable def Al:List D→R D
 | [.str x]=>R.bt (decide (x.length≤640)) (match PySem.intText? x with | some n=> .ok (.int n) | none=> .no)
 | _=> .no
theorem Gf:cS X (.type "int") Al:=cS.of yt fun B H ds d xs Q _ rs hg q=>by
 unfold Al at hg
 split at hg
 ·obtain⟨h1,h2⟩:=R.aS hg
  split at h2
  ·rename_i e
   cases h2
   obtain⟨x,rfl,r⟩:=rs.one
   exact⟨_,_,by rw[Rep.str.mp r],e,of_decide_eq_true h1,q _ H (aK.refl H) (Rep.int.mpr rfl)⟩
  ·cases h2
 ·cases hg
noncomputable def nQ(ds:List D):R D:=match ds with | [.str _]=>Al ds | _=>cInt ds
theorem A_:cS X (.type "int") nQ:=cS.or Gf HZ fun a d h=>by
 unfold nQ at h
 split at h
 ·exact .inl h
 ·exact .inr h
noncomputable def yp(f:FD):FD:=fun δ=>(f δ).bind fun d=>match d with | .int i=> .ok (.int (-i)) | _=> .no
theorem su{a:Expr}{f:FD}{pos:Pos}(h:QD X a f):QD X (.UnaryOp .USub a pos) (yp f):=⟨(Ih Ft h.1).imp fun σ H Q ⟨Z,B,δ,d,E,hf,q⟩=>by
 obtain⟨d1,h1,h2⟩:=R.ab hf
 split at h2
 ·cases h2
  exact⟨Z,B,δ,_,E,h1,fun v H1 s1 r1=>⟨_,Rep.int.mp r1,q _ H1 s1 (Rep.int.mpr rfl)⟩⟩
 ·cases h2⟩
noncomputable def Ka(d:D)(ds:List D):R D:=match d,ds with
 | .str x,[.str y]=> .ok (.int (Txt.find x y))
 | _,_=> .no
noncomputable def Lh(kvs:List (Str × Str)):D:= .dct (kvs.map fun p=>Sum.inr p.1) (kvs.map fun p=> .str p.2)
noncomputable def L8(kvs:List (Str × Str)):List (Key × V):=kvs.map fun p=>((Sum.inr p.1:Key),V.str p.2)
noncomputable def K6(d k:D):R D:=match d,k with
 | .dct ks ds, .str x=>(match (ks.zip ds).find? fun p=>decide (p.1=Sum.inr x) with | some p=> .ok p.2 | none=> .no)
 | _,_=> .no
end
theorem Hn{P:Program}{w:World}{K:PySem.W.Frag}{mg:Str→Option Value}{base:Heap}{k n:Nat}{f:Addr}{fd:FuncData}{ps:List Str}:f_ P w K mg base qk k f fd ps (A1 K n fun _=> .no):=
 ⟨fun vs H Q E h=>(by obtain⟨_,_,_,_,_,_,h,_⟩:=h;cases h),fun A outer s H args us vs Q E _ _ _ _ h=>(by obtain⟨_,_,_,_,_,_,h,_⟩:=h;cases h)⟩
end L2
namespace L3
open PySem PySem.Spec PyProof.Rows L2
section
variable {X:Cx} {cl:Nat→Addr}
noncomputable def J2(f:FX):FB:=fun δ S=>(f δ S).bind fun v S=>match v with | .d (.bl b)=> .ok b S | _=> .no
noncomputable def KH(f g:FX):FX:=fun δ S=>(J2 f δ S).bind fun b S=>if b then g δ S else .ok (.d (.bl false)) S
noncomputable def Mg(f g:FX):FX:=fun δ S=>(J2 f δ S).bind fun b S=>if b then .ok (.d (.bl true)) S else g δ S
noncomputable def zg(i:Nat)(F:FZ):FZ:=fun δ S=>match eO δ i with
 | some k=>(match cq S k with | some ds=>F (δ.set i (some (.d (.lst ds)))) (S.set k .gq) | none=> .no)
 | none=> .no
theorem xB(i:Nat){sts:List Stmt}{F:FZ}(h:y7 X cl sts F):y7 X cl sts (zg i F):=⟨h.1.imp fun D σ H ⟨ρ,S,δ,o,S',E,hf,q⟩=>by
 unfold zg at hf
 split at hf
 ·rename_i k hk
  split at hf
  ·rename_i ds hds
   obtain⟨v,v1,v2⟩:=E.val i _ (lp hk)
   unfold aL at v2
   obtain⟨a,a1,rfl⟩:=v2
   obtain⟨w,p,r⟩:=E.sw.gq a1 (fI hds)
   have E1:dW X.K cl ⟨ρ.r,ρ.z,a ::ρ.f⟩ H (S.set k .gq) σ (δ.set i (some (.d (.lst ds)))):=⟨by rw[List.length_set];exact E.len,w,fun j d e=>by
    by_cases h:i=j
    ·subst h
     rw[List.getElem?_set_self (by obtain⟨h1,_⟩:=List.getElem?_eq_some_iff.mp (lp hk);exact h1)] at e
     cases e
     exact⟨_,v1,by unfold aL;exact r⟩
    ·rw[List.getElem?_set_ne h] at e
     obtain⟨u,u1,u2⟩:=E.val j d e
     exact⟨u,u1,u2.pre p⟩⟩
   exact⟨_,_,_,o,S',E1,hf,q.pre p⟩
  ·cases hf
 ·cases hf⟩
theorem D1{i k:Nat}{ds:List D}{F:FZ}{δ:DE}{S:aF}{QO:Ou→aF→Prop}(hk:δ[i]? =some (some (.loc k)))(hS:S[k]? =some (.lst ds))(h:W3 (F (δ.set i (some (.d (.lst ds)))) (S.set k .gq)) QO):W3 (zg i F δ S) QO:=by
 unfold zg
 have e1:eO δ i=some k:=by unfold eO;rw [hk]
 have e2:cq S k=some ds:=by unfold cq;simp only[hS]
 simp only[e1,e2]
 exact h
end
noncomputable def Flat(S:aF):Prop:=∀o∈S,∀n,ll n o=true
theorem Flat.all{S:aF}(h:Flat S)(n:Nat):(S.take n).all (ll n)=true:=List.all_eq_true.mpr fun o ho=>h o (List.mem_of_mem_take ho) n
theorem Flat.set{S:aF}(h:Flat S)(k:Nat){x:SO}(hx:∀n,ll n x=true):Flat (S.set k x):=fun o ho=>by
 rcases List.mem_or_eq_of_mem_set ho with z | z
 ·exact h o z
 ·rw[z];exact hx
theorem Flat.push{S:aF}(h:Flat S){x:SO}(hx:∀n,ll n x=true):Flat (S++[x]):=fun o ho=>by
 rcases List.mem_append.mp ho with z | z
 ·exact h o z
 ·rw[List.mem_singleton.mp z];exact hx
theorem Flat.take{S:aF}(h:Flat S)(n:Nat):Flat (S.take n):=fun o ho=>h o (List.mem_of_mem_take ho)
theorem AX{N:List Str}{F:FZ}{vs:List V3}{S:aF}{QV:V3→aF→Prop}(h:W3 (l6 N F vs S) fun v S1=>Flat S1∧eQ S.length v=true∧∃d,res S1 v=some d∧QV (.d d) (S1.take S.length)):W3 (mF N F vs S) QV:=
 W3.bind (h.mono fun v S1 ⟨hl,hg,d,e,q⟩=>by
  rw[e]
  exact W3.wh (by rw[hl.all,hg];rfl) (W3.ok q))
end L3
end
section
set_option maxRecDepth 100000
set_option maxHeartbeats 4000000
namespace PySem
open Sem (wp)
open AutoSeq1 (wpAny_loadPart')
section
variable {prog:Program} {w:World} {A:Around} {E:Value→Shared→Prop} {s:Shared}
end
end PySem
namespace L2
open PySem PySem.Spec PyProof.Rows
section
variable {X:Cx}
noncomputable def Iv(f:FD):FD:=fun δ=>(f δ).bind fun d=>match d with
 | .int j=>R.bt (decide (-(2 ^ 62)≤j∧j < 16777216)) (.ok (.tup (gp 0 j.toNat)))
 | _=> .no
end
end L2
end
section
set_option maxRecDepth 100000
set_option maxHeartbeats 4000000
namespace PySem
open Sem (wp)
open AutoSeq1 (wpAny_loadPart')
section
variable {prog:Program} {w:World} {A:Around} {E:Value→Shared→Prop} {s:Shared}
theorem jP{it l:Addr}{i:Nat}{items:Array Value}{x:Value}{Q:Value→Shared→Prop}(hit:s.heap.IsTupleIter it l i)(hl:s.heap.IsTuple l items)(hx:items[i]? =some x)
 (hQ:∀h',h'.IsTupleIter it l (i+1)→Heap.SameBut it s.heap h'→Q x {s with heap:=h'}):wpAny (model prog w) A (Builtin.SmallTypes.nextOf (.ref it)) Q E s:=by
 obtain⟨o,ho,hc,hd⟩:=id hit;obtain⟨ol,hol,_,nl,hdl⟩:=hl
 unfold Builtin.SmallTypes.nextOf
 refine wpAny_bind (wpAny_callSpecial?_slot (name:=Str.ofString "__next__") hit.typeIs F.slot_tuple_iterator_next (wpAny_call_entry F.slot_tuple_iterator_next hit.typeIs F.entry_tuple_iterator_next ?_ (F.args_tuple_iterator_next_1 _)))
 show wpAny _ _ (field (.ref it) 0 >>=_) _ _ s;refine wpAny_bind (wpAny_field ho hd (x:= .ref l) rfl ?_)
 show wpAny _ _ (if(Value.ref l==Value.none)=true then _ else _) _ _ s;rw [if_neg (show ¬((Value.ref l==Value.none)=true) from Bool.false_ne_true)]
 show wpAny _ _ (field (.ref it) 1 >>=_) _ _ s;refine wpAny_bind (wpAny_field ho hd (x:= .int i 0) rfl ?_)
 show wpAny _ _ (seqItems? (.ref l) >>=_) _ _ s;refine wpAny_bind (wpAny_seqItems hol hdl ?_)
 simp only[Int.toNat_natCast,hx]
 refine wpAny_bind (wpAny_setField ho hd (by simp) (wpAny_pure ⟨x,rfl,wpAny_pure (hQ _ ⟨_,Heap.get?_update_self _ ho (Obj.isFreed_of_fields (Obj.data_mapFields hd _)),(Obj.cls_mapFields ..).trans hc,by rw[Obj.data_mapFields hd];simp [rawInt]⟩ (Heap.SameBut.update ..))⟩))
theorem ik{it l:Addr}{i:Nat}{items:Array Value}{Q:Value→Shared→Prop}(hh:A.handled=none)(hit:s.heap.IsTupleIter it l i)(hl:s.heap.IsTuple l items)(hx:items[i]? =none)
 (hE:∀h' e,Heap.ExtBut it s.heap h'→(∃o,h'.get? e=some o∧o.cls= .type "StopIteration")→E (.ref e) {s with heap:=h'}):wpAny (model prog w) A (Builtin.SmallTypes.nextOf (.ref it)) Q E s:=by
 obtain⟨o,ho,hc,hd⟩:=id hit;obtain⟨ol,hol,_,nl,hdl⟩:=hl
 unfold Builtin.SmallTypes.nextOf
 refine wpAny_bind (wpAny_callSpecial?_slot (name:=Str.ofString "__next__") hit.typeIs F.slot_tuple_iterator_next (wpAny_call_entry F.slot_tuple_iterator_next hit.typeIs F.entry_tuple_iterator_next ?_ (F.args_tuple_iterator_next_1 _)))
 show wpAny _ _ (field (.ref it) 0 >>=_) _ _ s;refine wpAny_bind (wpAny_field ho hd (x:= .ref l) rfl ?_)
 show wpAny _ _ (if(Value.ref l==Value.none)=true then _ else _) _ _ s;rw [if_neg (show ¬((Value.ref l==Value.none)=true) from Bool.false_ne_true)]
 show wpAny _ _ (field (.ref it) 1 >>=_) _ _ s;refine wpAny_bind (wpAny_field ho hd (x:= .int i 0) rfl ?_)
 show wpAny _ _ (seqItems? (.ref l) >>=_) _ _ s;refine wpAny_bind (wpAny_seqItems hol hdl ?_)
 simp only[Int.toNat_natCast,hx]
 refine wpAny_bind (wpAny_rule (wpAny_bind (wpAny_setField ho hd (by simp) ?_)))
 show wpAny _ _ (newExc (.type "StopIteration") [] >>=_) _ _ _;refine wpAny_bind ?_;simp only[newExc,newTuple]
 refine wpAny_bind (wpAny_newObj_type ?_ (by size_fits))
 refine wpAny_bind (m:=firstArgMember _ _) (wpAny_of_eq (a:=Value.none) (by first | rfl | (simp only[firstArgMember];rfl)) ?_);refine wpAny_newObj_type ?_ (by size_fits)
 simp only[raiseNew];refine wpAny_bind (wpAny_handled ?_)
 first | rw[show A.in1.handled=none from hh] | rw[hh]
 exact wpAny_bind (wpAny_pure (wpAny_throw (hE _ _ (((Heap.SameBut.update ..).extBut.push _).push _) ⟨_,Heap.get?_push_size _ rfl,rfl⟩)))
end
theorem yo{prog:Program}{w:World}{A:Around}(hh:A.handled=none)(it l:Addr)(hne:l≠it)(items:Array Value) :
 Draws prog w A it [it,l] items.size (fun i v=>items[i]? =some v) (fun i h=>h.IsTupleIter it l i∧h.IsTuple l items) where
 live:=fun _ _ st=>let⟨o,ho,_⟩:=st.1;⟨o,ho⟩
 frame:=fun _ _ _ st hk=>⟨st.1.at fun o e=>hk it (by simp) o e,Heap.IsTuple.at st.2 fun o e=>hk l (by simp) o e⟩
 item:=fun i s Q E hi st hQ=>jP st.1 st.2 (x:=items[i]) (by simp [hi]) fun h' hit' hs'=>hQ _ h' s.toks (by simp [hi]) ⟨hit',st.2.extBut hs'.extBut hne⟩ hs'
 done:=fun s Q E st hE=>ik hh st.1 st.2 (by simp) hE
theorem nW(l:Addr)(items:Array Value)(o:Obj)(n:Nat)(hc:o.cls= .type "tuple")(hd:o.data= .seq items n) :
 Meets (Builtin.«enumerate.__new__» ⟨[.type "enumerate", .ref l],[]⟩) (fun _ R s=>s.heap.get? l=some o∧
  R (.ok (.ret (.ref (s.heap.push {cls:= .type "tuple_iterator",data:= .fields #[.ref l, .int 0 0]}).objs.size)))
   {s with heap:=(s.heap.push {cls:= .type "tuple_iterator",data:= .fields #[.ref l, .int 0 0]}).push {cls:= .type "enumerate",data:= .fields #[.none, .bool false, .ref s.heap.objs.size,rawInt 0, .none, .none]}}):=
 .of_wp fun prog w A R s h=>by
  obtain⟨hp,g,d,tk,os⟩:=s;obtain⟨hl,h⟩:=h
  have hsub:=sub_enumerate
  have hL:Heap.IsTuple (Shared.heap ⟨hp,g,d,tk,os⟩) l items:=⟨_,hl,hc,n,hd⟩
  wp_walk using wpAny_loadPart' hl
  refine wpAny_stack_any fun st=>wpAny_pure ?_
  split
  ·rename_i c _ _ _ _ _
   cases(c==Value.type "enumerate") <;> (wp_walk using wpAny_loadPart' hl,wpAny_pyIter_tuple hL;exact⟨_,rfl,h⟩)
  ·wp_walk using wpAny_loadPart' hl,wpAny_pyIter_tuple hL
   exact⟨_,rfl,h⟩
theorem vC{prog:Program}{w:World}{A:Around}{E:Value→Shared→Prop}{s:Shared}{l:Addr}{items:Array Value}{Q:Value→Shared→Prop}(hL:s.heap.IsTuple l items)
 (h:∀h':Heap,IsEnum h' (s.heap.objs.size+1) s.heap.objs.size 0 .none→h'.IsTupleIter s.heap.objs.size l 0→(∀b o,s.heap.get? b=some o→h'.get? b=some o)→Q (.ref (s.heap.objs.size+1)) {s with heap:=h'}) :
 wpAny (model prog w) A (call (.type "enumerate") [.ref l]) Q E s:=by
 obtain⟨o,hl,hc,n,hd⟩:=hL
 refine callType_new F.called_enumerate (by decide) (F.typeCall_enumerate_1 _) (F.newCall_enumerate_1 _) (fun obj=>F.args_object_init_2 obj _) F.entry_enumerate_new (nW l items o n hc hd) ⟨hl,?_⟩
 have hz:(s.heap.push {cls:= .type "tuple_iterator",data:= .fields #[.ref l, .int 0 0]}).objs.size=s.heap.objs.size+1:=Heap.size_push ..
 show _∧_;rw [hz]
 have he:IsEnum ((s.heap.push {cls:= .type "tuple_iterator",data:= .fields #[.ref l, .int 0 0]}).push {cls:= .type "enumerate",data:= .fields #[.none, .bool false, .ref s.heap.objs.size,rawInt 0, .none, .none]}) (s.heap.objs.size+1) s.heap.objs.size 0 .none:=by
  have:=Heap.get?_push_size (s.heap.push {cls:= .type "tuple_iterator",data:= .fields #[.ref l, .int 0 0]}) (o:={cls:= .type "enumerate",data:= .fields #[.none, .bool false, .ref s.heap.objs.size,rawInt 0, .none, .none]}) rfl
  rw[hz] at this;exact this
 exact⟨⟨_,he,rfl⟩,h _ he ⟨_,Heap.get?_push_of_some _ (Heap.get?_push_size _ rfl),rfl,rfl⟩ fun b o x=>Heap.get?_push_of_some _ (Heap.get?_push_of_some _ x)⟩
end PySem
namespace L2
open PySem PySem.Spec PyProof.Rows
noncomputable def JC(K:PySem.W.Frag)(a:Addr):It:=
 ⟨fun i H=>∃xs x,nH K H a xs∧xs[i]? =some x,fun i H v H'=>∃p x,H p=none∧v= .ref p∧(∀xs,nH K H a xs→xs[i]? =some x)∧H'=upd H p (.tup [.int i,x]),fun i H=>∃xs,nH K H a xs∧xs.length≤i⟩
theorem wU{P:Program}{w:World}{K:PySem.W.Frag}{elts:List Expr}{k:Nat}{pos:Pos}(a e it:Addr)(hei:e≠it):Turn P w K (.Tuple elts k pos) (JC K a) [e,it] e (fun i h=>(∃old,IsEnum h e it ((i:Nat):Int) old)∧h.IsTupleIter it a i) where
 mem:=by simp
 obj:=fun i h st b hb=>by
  obtain⟨⟨old,he⟩,o,ho,c,d⟩:=st
  rcases List.mem_cons.mp hb with rfl | hb
  ·exact⟨_,he,fun v z=>by cases z⟩
  ·have e:b=it:=by simpa using hb
   subst e
   exact⟨o,ho,fun v z=>by rw[d] at z;cases z⟩
 keep:=fun i h h' st k=>by
  obtain⟨⟨old,he⟩,hi⟩:=st
  exact⟨⟨old,k e (by simp) _ he⟩,hi.at fun o x=>k it (by simp) o x⟩
 item:=by
  intro X hP hw hK hc i pins s σ H E I hf st hg
  subst hP hw hK
  obtain⟨xs,x,hq,hx⟩:=hg
  obtain⟨its,rv,p,hz⟩:=I.tuple hq
  have p':s.heap.IsTuple a its.toArray:=p
  obtain⟨u,hu,ru⟩:=rv.get hx
  obtain⟨⟨old,he⟩,hit⟩:=st
  obtain⟨f0,f1,f2,f3,f4,f5⟩:=hf e (by simp)
  obtain⟨g0,g1,g2,g3,g4,g5⟩:=hf it (by simp)
  have ha_it:a≠it:=fun z=>by
   obtain⟨o1,h1,c1,_⟩:=p'
   obtain⟨o2,h2,c2,_⟩:=hit
   rw[z,h2] at h1;cases h1
   rw[c2] at c1;exact absurd c1 (by decide)
  have ha_e:e ∉ [it,a]:=fun z=>by
   rcases List.mem_cons.mp z with q | q
   ·exact hei q
   ·have q:e=a:=by simpa using q
    obtain⟨o1,h1,c1,_⟩:=p'
    rw[←q,he] at h1;cases h1
    exact absurd (show Value.type "enumerate"=Value.type "tuple" from c1) (by decide)
  refine wpAny_pyNext_enum_itemD (yo (A:=X.A.in1) (I.ok.hd hc) it a ha_it its.toArray) he ⟨hit,p'⟩ (by have:=(List.getElem?_eq_some_iff.mp hu).1;simpa using this) hei ha_e fun u2 h₁ tk hu2 heo st₁ ht₁ hz₁ hk₁=>⟨_,rfl,?_⟩
  obtain rfl:u2=u:=by
   have h1:its[i]? =some u2:=by simpa using hu2
   rw[hu] at h1;cases h1;rfl
  obtain⟨hit₁,_⟩:=st₁
  refine wpAny_letOwnedTupleGo_enum heo fun h₂ he₂ hs₂=>?_
  replace hs₂:Heap.SameBut e h₁ h₂:=hs₂
  have hel:e < s.heap.objs.size:=Heap.lt_size he
  have ht₂:h₂.get? s.heap.objs.size=some {cls:= .type "tuple",data:= .seq #[.int i tk,u2]}:=(hs₂.2 _ (Nat.ne_of_gt hel)).trans ht₁
  have kk:∀b o,b≠e→b≠it→s.heap.get? b=some o→h₂.get? b=some o:=fun b o h1 h2 q=>(hs₂.2 b h1).trans (hk₁ b o h1 h2 q)
  have hn:H s.heap.objs.size=none:=I.fresh
  have sm:aK H (upd H s.heap.objs.size (.tup [.int i,x])):=aD hn
  have nit:∀b o,H b=some o→b≠e∧b≠it:=fun b o q=>⟨fun z=>(by rw[z,f0] at q;cases q),fun z=>(by rw[z,g0] at q;cases q)⟩
  have hok:kL X.prog X.w (upd H s.heap.objs.size (.tup [.int i,x])) h₂:=fun b ob q=>by
   by_cases hb:b=s.heap.objs.size
   ·subst hb
    rw[aN] at q
    cases q
    exact⟨by show 2≤sizeLine;decide,[.int i tk,u2], .cons ⟨_,rfl⟩ (.cons ru .nil),⟨_,ht₂,rfl,_,rfl⟩⟩
   ·rw[aT hb] at q
    refine(I.hok b ob q).tu (fun c v hc z=>?_) (fun c z=>sm c _ z) fun c ys z=>sm c _ z
    rcases hc with rfl | hc
    ·exact kk c v (nit c _ q).1 (nit c _ q).2 z
    ·exact kk c v (nit c _ hc).1 (nit c _ hc).2 z
  have nch:∀b,b ∉ [e,it]→b≠e∧b≠it:=fun b hb=>⟨fun z=>hb (by simp [z]),fun z=>hb (by simp [z])⟩
  have I2:Inv X pins σ (upd H s.heap.objs.size (.tup [.int i,x])) {s with heap:=h₂,toks:=tk+1}:=by
   refine I.step (g':=s.gens) (d':=s.drawn) (ch:=[e,it]) (fun b hb=>?_) (fun b o _ _ hb q _=>kk b o (nch b hb).1 (nch b hb).2 q) (fun b o _ _ hb q _=>⟨o.slots,kk b o (nch b hb).1 (nch b hb).2 q⟩)
    (fun b o hb q n=>by rw[aT (Nat.ne_of_lt (Heap.lt_size q))];exact n) (fun b o hb q=>⟨o,kk b o (nch b hb).1 (nch b hb).2 q⟩) (fun b ys z=>sm b _ z) (fun b o u z=>sm b _ z) (fun b ps z=>⟨#[],by rw[sm b _ z];simp⟩) (fun m hm=>?_) hok I.bare
   ·rcases List.mem_cons.mp hb with rfl | hb
    ·exact⟨f3,f1,f4,f5⟩
    ·have z:b=it:=by simpa using hb
     subst z
     exact⟨g3,g1,g4,g5⟩
   ·obtain⟨o,es,ep,ho,r⟩:=hm
    exact⟨o,es,ep,kk _ o (Ne.symm f1) (Ne.symm g1) ho,r⟩
  refine⟨.ref s.heap.objs.size,_,I2,rfl,⟨s.heap.objs.size,x,hn,rfl,fun ys hy=>(by rw[I.nk hy hq];exact hx),rfl⟩,⟨⟨_,by simpa using he₂⟩,hit₁.at fun o q=>(hs₂.2 it (Ne.symm hei)).trans q⟩,fun b hb=>?_⟩
  rcases List.mem_cons.mp hb with rfl | hb
  ·rw[aT (Nat.ne_of_lt hel)];exact f0
  ·have z:b=it:=by simpa using hb
   subst z
   obtain⟨o,ho,_⟩:=hit
   rw[aT (Nat.ne_of_lt (Heap.lt_size ho))];exact g0
 done:=by
  intro X hP hw hK hc i pins s σ H E I hf st hg
  subst hP hw hK
  obtain⟨xs,hq,hx⟩:=hg
  obtain⟨its,rv,p,hz⟩:=I.tuple hq
  have p':s.heap.IsTuple a its.toArray:=p
  obtain⟨⟨old,he⟩,hit⟩:=st
  obtain⟨g0,g1,g2,g3,g4,g5⟩:=hf it (by simp)
  have hl:=rv.length
  have hT:s.TypeIs (.ref e) "enumerate":=⟨_,he,rfl⟩
  unfold pyNext
  refine wpAny_bind (wpAny_attempt (wpAny_callSpecial?_slot (name:=Str.ofString "__next__") hT F.slot_enumerate_next (wpAny_call_entry F.slot_enumerate_next hT F.entry_enumerate_next ?_ (F.args_enumerate_next_1 _))))
  show wpAny _ _ (field (.ref e) 2 >>=_) _ _ _;refine wpAny_bind (wpAny_field he rfl (x:= .ref it) rfl ?_)
  refine wpAny_bind (ik (A:=X.A.in1) (I.ok.hd hc) hit p' (by simp;omega) fun h' x he' hx'=>?_)
  obtain⟨o,ho,hcl⟩:=hx'
  refine wpAny_bind (wpAny_isInstance (T:="StopIteration") (b:=true) ⟨o,ho,hcl⟩ isSubtype_stop ?_)
  exact wpAny_pure ⟨rfl,I.turned (t':=s.toks) (fun b o hb q=>he' b o hb q) g0 g1 g3 g4 g5⟩
 self:=fun A i s Q E st h=>let⟨⟨_,he⟩,_⟩:=st;wpAny_pyIter_enum he h
section
variable {X:Cx}
noncomputable def tF(f:FD):aq→R (List D):=fun δ=>(f δ).bind fun d=>match d with | .tup ds=> .ok (bV ds) | _=> .no
theorem vj{elts:List Expr}{k:Nat}{tpos:Pos}{a:Expr}{f:FD}{p pos:Pos}(h:QD X a f)(hg:Gl X "enumerate")(hm:X.mg "enumerate"=none)(hs:starEach [a] X.env=[(false,eval a X.env)]:=by rfl):wX X (.Tuple elts k tpos) (.Call (.Name "enumerate" p) [a] [] pos) (tF f):=by
 refine⟨?_⟩
 intro pins s σ H RR I ⟨Z,B,δ,ds,E,hf,q⟩
 obtain⟨d,h1,h2⟩:=R.ab hf
 have hA:=dz h.1 f7 hs pos pins s σ H (fun vs H1=>aK H H1∧∃v,vs=[v]∧Rep X.K B H1 d v) I ⟨Z,B,δ,d,E,h1,fun v H1 s1 r1=>⟨s1,v,rfl,r1⟩⟩
 refine Call_ (iM I hg hm boot_enumerate (PyProof.Rows.callWith_type1 (dw hA fun us s1 ⟨vs,H1,I1,r1,ss,v,ev,rr⟩=>?_) hs rfl))
 subst ev
 obtain⟨u,rfl,ru⟩:=vals1 r1
 cases d with
 | tup es=>
   cases h2
   obtain⟨b,xs,rfl,l,rs⟩:=Rep.tup.mp rr
   cases ru
   obtain⟨its,rv,pt,hz⟩:=I1.tuple l.sq
   refine vC (items:=its.toArray) pt fun h' he hit kk=>wpAny_pyIter_enum he ?_
   have I2:Inv X pins σ H1 {s1 with heap:=h'}:=I1.kept (t':=s1.toks) kk
   refine⟨s1.heap.objs.size+1,[s1.heap.objs.size+1,s1.heap.objs.size],_,_,H1,rfl,I2,wU b (s1.heap.objs.size+1) s1.heap.objs.size (Nat.succ_ne_self _),⟨⟨_,he⟩,hit⟩,fun c hc=>?_,q _ H1 ss fun B' H' pr=>?_⟩
   ·have hle:s1.heap.objs.size≤c:=by
     rcases List.mem_cons.mp hc with z | hc
     ·rw[z];exact Nat.le_succ _
     ·have z:c=s1.heap.objs.size:=by simpa using hc
      rw[z];exact Nat.le_refl _
    exact I1.n6 hle (I1.hok.fresh hle)
   ·have l':qO X.K B' H' b xs:=l.elim (fun z=> .inl ⟨(pr.rd z.2 z.1).2,(pr.rd z.2 z.1).1⟩) .inr
    have rs':=rs.aZ pr
    refine⟨fun i d hd=>?_,⟨xs,l'.sq,by rw[←rs.length];unfold bV;simp⟩⟩
    unfold bV at hd
    rw[List.getElem?_map,List.getElem?_zipIdx] at hd
    cases e:es[i]? with
    | none=>rw [e] at hd;cases hd
    | some d0=>
      rw[e] at hd
      have hd:D.tup [.int ((0+i:Nat):Int),d0]=d:=Option.some.inj hd
      rw[Nat.zero_add] at hd
      obtain⟨x,hx,rx⟩:=rs'.get e
      refine⟨⟨xs,x,l'.sq,hx⟩,fun v H'' y hB'=>?_⟩
      obtain⟨p,y,hp,rfl,hy,rfl⟩:=y
      refine⟨aD hp,?_⟩
      subst hd
      have hy2:=hy xs l'.sq
      rw[hx] at hy2
      cases hy2
      refine Rep.tup.mpr ⟨p,_,rfl, .inl ⟨fun ha=>?_, .inl aN⟩,ay.cons (Rep.int.mpr rfl) (ay.cons (rx.same (aD hp)) ay.nil)⟩
      obtain⟨o,ho⟩:=hB' p ha
      rw[hp] at ho;cases ho
 | _=>cases h2
end
end L2
end
section
set_option maxRecDepth 100000
set_option maxHeartbeats 4000000
namespace L2
open PySem PySem.Spec PyProof.Rows
section
variable {X:Cx}
noncomputable abbrev KC:D→D→R D:=tJ (fun _ j=>decide (0 < j∧j.natAbs.log2 < 9000)) fun i j=>i / j
theorem uR:∀{ns:List Int} {us:List Value},Vals (ns.map V.int) us→IntsAre us ns
 | [],_, .nil=> .nil
 | n ::ns,_, .cons r t=>by obtain⟨tk,rfl⟩:=r;exact .cons _ _ (uR t)
theorem Bj:∀{ns:List Int} {us:List Value},IntsAre us ns→Vals (ns.map V.int) us:=fun h=>by
 induction h with
 | nil=>exact .nil
 | cons _ _ _ ih=>exact .cons ⟨_,rfl⟩ ih
theorem uS{K:PySem.W.Frag}{B:List Addr}{H:Hp}{ds:List D}{xs:List V}(r:ay K B H ds xs):∀n:Nat,ay K B H (List.replicate n ds).flatten (List.replicate n xs).flatten
 | 0=>ay.nil
 | n+1=>by rw[List.replicate_succ,List.replicate_succ,List.flatten_cons,List.flatten_cons];exact r.append (uS r n)
noncomputable def C_(f:aq→R (List D))(g:FD):aq→R (List D):=fun δ=>(f δ).bind fun ds=>(g δ).bind fun d=>match d with
 | .int k=>R.bt (decide (0≤k∧k < 1000000∧ds.length*k.toNat≤sizeLine)) (.ok (List.replicate k.toNat ds).flatten)
 | _=> .no
theorem C8{a b:Expr}{f:aq→R (List D)}{g:FD}{pos:Pos}(ha:QN X a f)(hb:QD X b g):QN X (.BinOp a .Mult b pos) (C_ f g):=by
 refine⟨(Ap Fv ha.1 hb.1).imp fun σ H Q ⟨Z,B,δ,es,E,hf,q⟩=>?_⟩
 obtain⟨ds,h1,h2⟩:=R.ab hf
 obtain⟨d,h3,h4⟩:=R.ab h2
 split at h4
 ·rename_i k
  obtain⟨h5,h6⟩:=R.aS h4
  cases h6
  obtain⟨k0,k1,k2⟩:=of_decide_eq_true h5
  refine⟨Z,B,δ,ds,E,h1,fun a xs H1 s1 n1 e1 r1=>⟨Z,B,δ, .int k,E.same s1,h3,fun v H2 s2 r2=>⟨a,k,xs,rfl,Rep.int.mp r2,s2 a _ e1,by omega,by omega,by rw[←r1.length];exact k2,fun p hp=>?_⟩⟩⟩
  refine q p _ _ (s1.trans (s2.trans (aD hp))) ((s1.trans s2).free hp) aN ?_
  refine(uS r1 k.toNat).aZ fun b o e nb=>⟨(s2.trans (aD hp)) b o e,fun hm=>?_⟩
  rcases List.mem_cons.mp hm with z | z
  ·rw[z] at e;rw [s2 p _ e] at hp;cases hp
  ·exact nb (List.mem_cons_of_mem _ z)
 ·cases h4
noncomputable def nG(ns:List Int):List Int:=ns.mergeSort fun a b=>decide (a≤b)
theorem ua{a ns:List Int}(p:a.Perm ns)(o:a.Pairwise (·≤·)):a=nG ns:=by
 refine PySem.W.ksm_same (p.trans (List.mergeSort_perm ns _).symm) o ?_
 have:=List.pairwise_mergeSort (le:=fun a b:Int=>decide (a≤b)) (fun a b c h1 h2=>by simp at*;omega) (fun a b=>by simp;omega) ns
 exact this.imp fun h=>by simpa using h
noncomputable def Iw:List D→R D
 | [.lst ds]=>(match ints? ds with | some ns=>R.bt (decide (ns.length < 64)) (.ok (.lst ((nG ns).map .int))) | none=> .no)
 | _=> .no
theorem getD_in{l:List Int}{i:Nat}(h:i < l.length):l.getD i 0∈l:=by
 have e:l.getD i 0=l[i]:=by simp [h]
 rw[e];exact List.getElem_mem h
theorem fold_min:∀(ns:List Int) (n:Int),ns.foldl min n∈n ::ns∧∀a∈n ::ns,ns.foldl min n≤a
 | [],n=>⟨by simp,fun a ha=>by simp at ha;subst ha;exact Int.le_refl _⟩
 | x ::ns,n=>by
   obtain⟨h1,h2⟩:=fold_min ns (min n x)
   rw[List.foldl_cons]
   refine⟨?_,fun a ha=>?_⟩
   ·rcases List.mem_cons.mp h1 with z | z
    ·rw[z];by_cases hc:n≤x
     ·rw[Int.min_eq_left hc];simp
     ·rw[Int.min_eq_right (by omega)];simp
    ·exact List.mem_cons_of_mem _ (List.mem_cons_of_mem _ z)
   ·have hm:=h2 _ List.mem_cons_self
    rcases List.mem_cons.mp ha with z | z
    ·subst z;omega
    ·rcases List.mem_cons.mp z with z | z
     ·subst z;omega
     ·exact h2 a (List.mem_cons_of_mem _ z)
noncomputable def lZ:List D→R D
 | [.lst ds]=>(match ints? ds with | some (n ::ns)=> .ok (.int (ns.foldl min n)) | _=> .no)
 | ds=>qG ds
noncomputable def J0:List D→R D
 | [.lst ds]=>(match ints? ds with | some (n ::ns)=> .ok (.int (ns.foldl max n)) | _=> .no)
 | ds=>Js ds
theorem vA(hc:X.calm=true):cS X (.builtin "min") lZ:=by
 intro pins s σ H B ds d xs us I hb rx rs hg
 unfold lZ at hg
 split at hg
 ·split at hg
  ·rename_i es n ns e
   cases hg
   obtain⟨x,rfl,r⟩:=rs.one
   obtain⟨a,ys,rfl,l,r⟩:=Rep.lst.mp r
   obtain⟨u,rfl,ru⟩:=vals1 rx
   cases ru
   obtain⟨its,k,rv,e1,hz⟩:=I.D0 l
   rw[gJ r e] at rv
   obtain⟨ps,rfl,hps⟩:=k5 rv
   have hl:s.heap.IsList a (intItems ps.toArray):=⟨_,e1,rfl,k,by simp [intItems]⟩
   have hlp:ps.length=ns.length+1:=by have:=congrArg List.length hps;simpa using this
   refine min_intList (I.ok.hd hc) hl (by simp;omega) fun v h' tk hv hk=>?_
   obtain⟨t,rfl⟩:=intItems_at hv
   obtain⟨b1,b2⟩:=argBest_lt (numAt ps.toArray) (ps.toArray.size - 1)
   refine⟨.int _,H,I.kept hk,⟨t,rfl⟩,aK.refl H,Rep.int.mpr ?_⟩
   obtain⟨m1,m2⟩:=fold_min ns n
   have hge:∀j,j < ps.length→numAt ps.toArray j=(n ::ns).getD j 0:=fun j hj=>by rw[numAt_eq,←hps]
   have hin:numAt ps.toArray (argBest (fun i j=>decide (numAt ps.toArray i < numAt ps.toArray j)) (ps.toArray.size - 1))∈n ::ns:=by
    rw[hge _ (by simp at b1 ⊢;omega)];exact getD_in (by simp at b1 ⊢;omega)
   have hle:=m2 _ hin
   obtain⟨j,hj,ej⟩:=List.getElem_of_mem m1
   have hj':j < ns.length+1:=by simpa using hj
   have h3:=b2 j (by simp;omega)
   rw[hge j (by omega)] at h3
   have h4:(n ::ns).getD j 0=ns.foldl min n:=by rw[←ej,List.getD_eq_getElem?_getD,List.getElem?_eq_getElem hj];rfl
   rw[h4] at h3
   congr 1
   omega
  ·cases hg
 ·exact Ie hc pins s σ H B _ d xs us I hb rx rs hg
end
end L2
namespace L3
open PySem PySem.Spec PyProof.Rows L2
noncomputable def Hj(S:aF):V3→Option (List D)
 | .d (.lst ds)=>some ds
 | .loc k=>cq S k
 | _=>none
section
variable {X:Cx} {cl:Nat→Addr}
noncomputable def KU(fa fb:FX):FX:=fun δ S=>(fa δ S).bind fun a S1=>(fb δ S1).bind fun b S2=>match Hj S2 a,Hj S2 b with
 | some ds,some es=>R3.bt (decide (ds.length+es.length≤sizeLine)) (.ok (.loc S2.length) (S2++[.lst (ds++es)]))
 | _,_=> .no
noncomputable def KO(i:Nat):FZ:=fun δ S=>match eO δ i with
 | none=> .no
 | some k=>(match cq S k with | some _=> .ok (.nx δ) (S.set k (.lst [])) | none=> .no)
end
end L3
end
section
set_option maxRecDepth 100000
set_option maxHeartbeats 4000000
namespace L3
open PySem PySem.Spec PyProof.Rows L2
noncomputable def ka(S:aF)(c k:Nat):Option (List (Str × V3)):=match S[k]? with | some (.ins c' fs)=>(if c'=c then some fs else none) | _=>none
theorem jx{S:aF}{c k:Nat}{fs:List (Str × V3)}(h:ka S c k=some fs):S[k]? =some (.ins c fs):=by
 unfold ka at h
 split at h
 ·rename_i c' fs' e
  split at h
  ·rename_i hc;cases h;rw [e,hc]
  ·cases h
 ·cases h
theorem xl{K:PySem.W.Frag}{ρ:P3}{H:Hp}{f:Str}{v:V3}:∀{fs:List (Str × V3)} {ys:List (Str × V)},ys.map (·.1)=fs.map (·.1)→ax K ρ H (fs.map (·.2)) (ys.map (·.2))→fs.lookup f=some v→∃x,ys.lookup f=some x∧aL K ρ H v x
 | [],ys,_,_,h=>by simp at h
 | (g,w) ::fs,[],e,_,_=>by simp at e
 | (g,w) ::fs,(g',y) ::ys,e,r,h=>by
   obtain⟨e1,e2'⟩:=List.cons.inj e
   have e1:g'=g:=e1
   subst e1
   obtain⟨x,xs,ex,r1,r2⟩:=r.bA
   cases ex
   rw[List.lookup_cons] at h ⊢
   cases hq:f==g' with
   | true=>rw [hq] at h;cases h;exact⟨y,rfl,r1⟩
   | false=>rw [hq] at h;exact xl e2' r2 h
theorem u_{f:Str}:∀{fs:List (Str × V3)} {ys:List (Str × V)},ys.map (·.1)=fs.map (·.1)→fs.lookup f=none→ys.lookup f=none
 | [],[],_,_=>rfl
 | [],_ ::_,e,_=>by simp at e
 | _ ::_,[],e,_=>by simp at e
 | (g,w) ::fs,(g',y) ::ys,e,h=>by
   obtain⟨e1,e2'⟩:=List.cons.inj e
   have e1:g'=g:=e1
   subst e1
   rw[List.lookup_cons] at h ⊢
   cases hq:f==g' with
   | true=>rw [hq] at h;cases h
   | false=>rw [hq] at h;exact u_ e2' h
noncomputable def uz(f:Str)(v:V3):List (Str × V3)→List (Str × V3)
 | []=>[(f,v)]
 | (g,x) ::r=>if g=f then(g,v) ::r else(g,x) ::uz f v r
theorem x_{K:PySem.W.Frag}{ρ:P3}{H:Hp}{f:Str}{v:V3}{u:V}(rv:aL K ρ H v u):∀{fs:List (Str × V3)} {ys:List (Str × V)},ys.map (·.1)=fs.map (·.1)→ax K ρ H (fs.map (·.2)) (ys.map (·.2))→
 (iK f u ys).map (·.1)=(uz f v fs).map (·.1)∧ax K ρ H ((uz f v fs).map (·.2)) ((iK f u ys).map (·.2))
 | [],[],_,_=>⟨rfl,ax.cons rv ax.nil⟩
 | [],_ ::_,e,_=>by simp at e
 | _ ::_,[],e,_=>by simp at e
 | (g,w) ::fs,(g',y) ::ys,e,r=>by
   obtain⟨e1,e2'⟩:=List.cons.inj e
   have e1:g'=g:=e1
   subst e1
   obtain⟨x,xs,ex,r1,r2⟩:=r.bA
   cases ex
   unfold uz iK
   by_cases hg:g'=f
   ·rw[if_pos hg,if_pos hg]
    exact⟨by rw[List.map_cons,List.map_cons,e2'],ax.cons rv r2⟩
   ·rw[if_neg hg,if_neg hg]
    obtain⟨h1,h2⟩:=x_ rv e2' r2
    exact⟨by rw[List.map_cons,List.map_cons,h1],ax.cons r1 h2⟩
section
variable {X:Cx} {cl:Nat→Addr}
noncomputable def pJ(c:Nat)(f:Str)(g:FX):FX:=fun δ S=>(g δ S).bind fun v S1=>match v with
 | .loc k=>(match ka S1 c k with | some fs=>(match fs.lookup f with | some v=> .ok v S1 | none=> .no) | none=> .no)
 | _=> .no
theorem jq{c:Nat}{e:Expr}{f:Str}{g:FX}{pos:Pos}(hC:tK X.K (cl c))(hn:cO X.K (cl c) f)(he:PX X cl e g)(hb:attributeBase e f X.env (eval e X.env)=eval e X.env:=by rfl):PX X cl (.Attribute e f pos) (pJ c f g):=⟨(EF he.1 hb).imp fun σ H Q ⟨ρ,S,δ,v,S',E,hf,q⟩=>by
 obtain⟨o,S1,h1,h2⟩:=R3.ab hf
 split at h2
 ·rename_i k
  split at h2
  ·rename_i fs e1
   split at h2
   ·rename_i w e2'
    cases h2
    refine⟨ρ,S,δ, .loc k,_,E,h1,fun u ρ1 H1 p1 w1 r1=>?_⟩
    unfold aL at r1
    obtain⟨a,a1,rfl⟩:=r1
    obtain⟨dx,ys,ey,ek,rs⟩:=w1.ob k a _ a1 (jx e1)
    obtain⟨x,hx,rx⟩:=xl ek rs e2'
    exact⟨a,cl c,dx,ys,x,rfl,ey,hC,hn,hx,q x ρ1 H1 p1 w1 rx⟩
   ·cases h2
  ·cases h2
 ·cases h2⟩
theorem w_fld{c k:Nat}{f:Str}{g:FX}{δ:DE}{S:aF}{Q:V3→aF→Prop}(h:W3 (g δ S) fun v S1=>∃fs w,v= .loc k∧S1[k]? =some (.ins c fs)∧fs.lookup f=some w∧Q w S1):W3 (pJ c f g δ S) Q:=
 W3.bind (h.mono fun v S1 ⟨fs,w,e1,e2',e3,q⟩=>by
  subst e1
  have e4:ka S1 c k=some fs:=by unfold ka;simp only[e2',if_true]
  simp only[e4,e3]
  exact W3.ok q)
noncomputable def fW(P:Program)(w:World)(K:PySem.W.Frag)(mg:Str→Option Value)(base:Heap)(cl:Nat→Addr)(k c:Nat)(m:Str)(n:Nat)(g:List V3→aF→R3 V3):Prop:=
 ∃(f:Addr) (fd:FuncData) (ps:List Str),tK K (cl c)∧Meth K (cl c) m f∧f_ P w K mg base qk k f fd ps (zo K cl (n+1) g)∧Binds K fd ps []
noncomputable def rL(c:Nat)(m:Str)(g:List V3→aF→R3 V3)(fo:FX)(fs:FA):FX:=fun δ S=>(fo δ S).bind fun o S1=>match o with
 | .loc k=>(match ka S1 c k with | some ys=>(match ys.lookup m with | none=>(fs δ S1).bind fun vs S2=>g (.loc k ::vs) S2 | some _=> .no) | none=> .no)
 | _=> .no
theorem og{g:List V3→aF→R3 V3}{k j n c:Nat}{m:Str}{o e:Expr}{es:List Expr}{fo:FX}{fs:FA}{apos pos:Pos}{pl:Sem Bool}(M:fW X.prog X.w X.K X.mg X.base cl k c m n g)(hr:dS j X.A)(hkj:k≤j)(ho:PX X cl o fo)(ha:BV X cl (e ::es) fs)(hn:∀δ S ds S',fs δ S= .ok ds S'→ds.length=n)
 (hst:starEach (e ::es) X.env=(false,eval e X.env) ::starEach es X.env:=by rfl) (hpl:(backTo pos (starEach es X.env)).any (·.1)=false:=by rfl)
 (ht:eval (.Call (.Attribute o m apos) (e ::es) [] pos) X.env=(do
   let ov ←eval o X.env
   standAt apos.atName
   let(f,first) ←holding [ov] (getMethod ov m pl)
   callWith pos f first (backTo pos (starEach (e ::es) X.env)) (backToKw pos (keywordEach [] X.env))):=by rfl) :
 PX X cl (.Call (.Attribute o m apos) (e ::es) [] pos) (rL c m g fo fs):=by
 obtain⟨f,fd,ps,hC,hm,F,hb⟩:=M
 refine⟨(CL ho.1 hC hm F (hr.mono hkj) hb .nil ue ha.1 hst hpl ht).imp fun σ H Q ⟨ρ,S,δ,v,S',E,hf,q⟩=>?_⟩
 obtain⟨ov,S1,h1,h2⟩:=R3.ab hf
 split at h2
 ·rename_i kk
  split at h2
  ·rename_i ys e1
   split at h2
   ·rename_i e2'
    obtain⟨vs,S2,h3,h4⟩:=R3.ab h2
    refine⟨ρ,S,δ, .loc kk,S1,E,h1,fun u ρ1 H1 p1 w1 r1=>?_⟩
    have r1':=r1
    unfold aL at r1
    obtain⟨a,a1,rfl⟩:=r1
    obtain⟨dx,zs,ey,ek,rs⟩:=w1.ob kk a _ a1 (jx e1)
    refine⟨a,dx,zs,rfl,ey,u_ ek e2',ρ1,S1,δ,vs,S2,E.to p1 w1,h3,fun us ρ2 H2 p2 w2 r2=>?_⟩
    show zo X.K cl (n+1) g (V.ref a ::(us++[])) H2 Q E0
    rw[List.append_nil]
    exact⟨by rw[List.length_cons,←r2.length,hn δ S1 vs S2 h3],ρ2,S2, .loc kk ::vs,v,S',w2,ax.cons (r1'.pre p2) r2,h4,fun z ρ3 H3 p3 w3 r3=>q z ρ3 H3 (p1.trans (p2.trans p3)) w3 r3⟩
   ·cases h2
  ·cases h2
 ·cases h2
noncomputable def pU(P:Program)(w:World)(K:PySem.W.Frag)(mg:Str→Option Value)(base:Heap)(cl:Nat→Addr)(k c:Nat)(x:Str)(n:Nat)(g:List V3→aF→R3 V3):Prop:=
 ∃(f:Addr) (fd:FuncData) (ps:List Str),Mk K (cl c) f∧f_ P w K mg base qk k f fd ps (zo K cl (n+1) g)∧mg x=some (.ref (cl c))∧Binds K fd ps []
noncomputable def xN(c:Nat)(g:List V3→aF→R3 V3)(fs:FA):FX:=fun δ S=>(fs δ S).bind fun vs S1=>(g (.loc S1.length ::vs) (S1++[.ins c []])).bind fun v S2=>match v with
 | .d .bX=> .ok (.loc S1.length) S2
 | _=> .no
theorem xo{g:List V3→aF→R3 V3}{k j n c:Nat}{x:Str}{p pos:Pos}{e:Expr}{es:List Expr}{fs:FA}(M:pU X.prog X.w X.K X.mg X.base cl k c x n g)(hr:dS j X.A)(hkj:k+1≤j)(hg:Gl X x)(ha:BV X cl (e ::es) fs)(hn:∀δ S ds S',fs δ S= .ok ds S'→ds.length=n)
 (hdb:(x==("__debug__":Str))=false:=by decide) (he:starEach (e ::es) X.env=(false,eval e X.env) ::starEach es X.env:=by rfl) (hpl:(backTo pos (starEach es X.env)).any (·.1)=false:=by rfl) :
 PX X cl (.Call (.Name x p) (e ::es) [] pos) (xN c g fs):=by
 obtain⟨f,fd,ps,M,F,hm,hb⟩:=M
 refine⟨(CK M F (hr.mono hkj) hg hm hb .nil ue ha.1 hdb he hpl).imp fun σ H Q ⟨ρ,S,δ,v,S',E,hf,q⟩=>?_⟩
 obtain⟨vs,S1,h1,h2⟩:=R3.ab hf
 obtain⟨v0,S2,h3,h4⟩:=R3.ab h2
 split at h4
 ·cases h4
  refine⟨ρ,S,δ,vs,S1,E,h1,fun us ρ1 H1 p1 w1 r1 xa dx hx hdx hne=>?_⟩
  have hx1:upd H1 dx (.own xa) xa=none:=by rw[aT (fun z=>hne z.symm)];exact hx
  have sm:aK H1 (upd (upd H1 dx (.own xa)) xa (.ins (cl c) dx [])):=(aD hdx).trans (aD hx1)
  obtain⟨w2,p2⟩:=w1.new (a:=xa) (o:= .ins c []) sm hx ⟨dx,[],aN,rfl,ax.nil⟩
  show zo X.K cl (n+1) g (V.ref xa ::(us++[])) _ _ E0
  rw[List.append_nil]
  have rl:aL X.K (ρ1.push xa) (upd (upd H1 dx (.own xa)) xa (.ins (cl c) dx [])) (.loc S1.length) (.ref xa):=by
   unfold aL
   exact⟨xa,by show(ρ1.r++[xa])[_]? =_;rw [←w1.len,List.getElem?_append_right (Nat.le_refl _),Nat.sub_self];rfl,rfl⟩
  exact⟨by rw[List.length_cons,←r1.length,hn δ S vs S1 h1],_,_, .loc S1.length ::vs, .d .bX,_,w2,ax.cons rl (r1.pre p2),h3,fun z ρ3 H3 p3 w3 r3=>⟨by unfold aL Rep at r3;exact r3,q _ ρ3 H3 (p1.trans (p2.trans p3)) w3 (rl.pre p3)⟩⟩
 ·cases h4
noncomputable def tI(c:Nat)(f:Str)(fo fe:FX):FZ:=fun δ S=>(fe δ S).bind fun v S1=>(fo δ S1).bind fun o S2=>match o with
 | .loc k=>(match ka S2 c k with | some fs=>R3.bt (decide (fs.length < 1000)) (.ok (.nx δ) (S2.set k (.ins c (uz f v fs)))) | none=> .no)
 | _=> .no
theorem lN{c:Nat}{o value:Expr}{f:Str}{fo fe:FX}{pos pos':Pos}(hC:tK X.K (cl c))(hn:cO X.K (cl c) f)(ho:PX X cl o fo)(he:PX X cl value fe)(hs:swapsWith value (some (.Attribute o f pos')) pos.line X.env=pure false:=by rfl) :
 PZ X cl (.Assign [.Attribute o f pos'] value pos) (tI c f fo fe):=⟨(Ez ho.1 he.1 hs).imp fun D σ H ⟨ρ,S,δ,ou,S',E,hf,q⟩=>by
 obtain⟨v,S1,h1,h2⟩:=R3.ab hf
 obtain⟨vo,S2,h3,h4⟩:=R3.ab h2
 split at h4
 ·rename_i k
  split at h4
  ·rename_i fs e1
   obtain⟨hl,h5⟩:=R3.aS h4
   cases h5
   refine⟨ρ,S,δ,v,S1,E,h1,fun u ρ1 H1 p1 w1 r1=>⟨ρ1,S1,δ, .loc k,S2,E.to p1 w1,h3,fun u2 ρ2 H2 p2 w2 r2=>?_⟩⟩
   unfold aL at r2
   obtain⟨a,a1,rfl⟩:=r2
   obtain⟨dx,ys,ey,ek,rs⟩:=w2.ob k a _ a1 (jx e1)
   have hlen:ys.length=fs.length:=by have:=congrArg List.length ek;simpa using this
   obtain⟨k1,k2⟩:=x_ (f:=f) (r1.pre p2) ek rs
   obtain⟨w3,p3⟩:=w2.put (o:= .ins c (uz f v fs)) (u:= .ins (cl c) dx (iK f u ys)) a1 (w2.fz k a a1 (by rw[jx e1];intro h;cases h)) ⟨dx,_,rfl,k1,k2⟩
   exact⟨a,cl c,dx,ys,rfl,ey,hC,hn,by rw[hlen];exact of_decide_eq_true hl,q σ ρ2 _ (p1.trans (p2.trans p3)) (E.to (p1.trans (p2.trans p3)) w3)⟩
  ·cases h4
 ·cases h4⟩
theorem ig{c k:Nat}{f:Str}{fo fe:FX}{δ:DE}{S:aF}{QO:Ou→aF→Prop}(h:W3 (fe δ S) fun v S1=>W3 (fo δ S1) fun o S2=>∃fs,o= .loc k∧S2[k]? =some (.ins c fs)∧fs.length < 1000∧QO (.nx δ) (S2.set k (.ins c (uz f v fs)))):W3 (tI c f fo fe δ S) QO:=
 W3.bind (h.mono fun v S1 h=>W3.bind (h.mono fun o S2 ⟨fs,e1,e2',hl,q⟩=>by
  subst e1
  have e4:ka S2 c k=some fs:=by unfold ka;simp only[e2',if_true]
  simp only[e4]
  exact W3.wh (decide_eq_true hl) (W3.ok q)))
theorem sv{c k:Nat}{m:Str}{g:List V3→aF→R3 V3}{fo:FX}{fs:FA}{δ:DE}{S:aF}{Q:V3→aF→Prop}(h:W3 (fo δ S) fun o S1=>∃ys,o= .loc k∧S1[k]? =some (.ins c ys)∧ys.lookup m=none∧W3 (fs δ S1) fun vs S2=>W3 (g (.loc k ::vs) S2) Q):W3 (rL c m g fo fs δ S) Q:=
 W3.bind (h.mono fun o S1 ⟨ys,e1,e2',e3,h⟩=>by
  subst e1
  have e4:ka S1 c k=some ys:=by unfold ka;simp only[e2',if_true]
  simp only[e4,e3]
  exact W3.bind h)
theorem Bl{c:Nat}{g:List V3→aF→R3 V3}{fs:FA}{δ:DE}{S:aF}{Q:V3→aF→Prop}(h:W3 (fs δ S) fun vs S1=>W3 (g (.loc S1.length ::vs) (S1++[.ins c []])) fun v S2=>v= .d .bX∧Q (.loc S1.length) S2):W3 (xN c g fs δ S) Q:=
 W3.bind (h.mono fun vs S1 h=>W3.bind (h.mono fun v S2 ⟨e,q⟩=>by subst e;exact W3.ok q))
end
end L3
end
section
set_option maxRecDepth 100000
set_option maxHeartbeats 4000000
namespace PySem
open Sem (wp)
noncomputable def eV(t:Bool)(h:Heap)(i l:Addr)(k:Nat):Prop:=cond t (h.IsTupleIter i l k) (h.IsListIter i l k)
noncomputable def iu(t:Bool)(h:Heap)(l:Addr)(xs:Array Value):Prop:=cond t (h.IsTuple l xs) (h.IsList l xs)
noncomputable def oZ(t:Bool):String:=cond t "tuple_iterator" "list_iterator"
theorem eV.at{t:Bool}{h h':Heap}{i l:Addr}{k:Nat}(x:eV t h i l k)(e:∀o,h.get? i=some o→h'.get? i=some o):eV t h' i l k:=by
 cases t with
 | true=>exact Heap.IsTupleIter.at x e
 | false=>exact Heap.IsListIter.at x e
theorem iu.at{t:Bool}{h h':Heap}{l:Addr}{xs:Array Value}(x:iu t h l xs)(e:∀o,h.get? l=some o→h'.get? l=some o):iu t h' l xs:=by
 cases t with
 | true=>exact Heap.IsTuple.at x e
 | false=>exact Heap.IsList.at x e
theorem eV.xb{t:Bool}{h h':Heap}{i l b:Addr}{k:Nat}(x:eV t h i l k)(hs:Heap.ExtBut b h h')(hab:i≠b):eV t h' i l k:=x.at fun o e=>hs i o hab e
theorem iu.xb{t:Bool}{h h':Heap}{l b:Addr}{xs:Array Value}(x:iu t h l xs)(hs:Heap.ExtBut b h h')(hab:l≠b):iu t h' l xs:=x.at fun o e=>hs l o hab e
theorem eV.ob{t:Bool}{h:Heap}{i l:Addr}{k:Nat}(x:eV t h i l k):∃o,h.get? i=some o∧∀v,o.data≠ .cell v:=by
 cases t with
 | true=>obtain⟨o,e,_,d⟩:=x;exact⟨o,e,fun v z=>by rw[d] at z;cases z⟩
 | false=>obtain⟨o,e,_,d⟩:=x;exact⟨o,e,fun v z=>by rw[d] at z;cases z⟩
theorem iu.lt{t:Bool}{h:Heap}{l:Addr}{xs:Array Value}(x:iu t h l xs):l < h.objs.size:=by
 cases t with
 | true=>obtain⟨o,e,_⟩:=x;exact Heap.lt_size e
 | false=>obtain⟨o,e,_⟩:=x;exact Heap.lt_size e
theorem eV.lt{t:Bool}{h:Heap}{i l:Addr}{k:Nat}(x:eV t h i l k):i < h.objs.size:=let⟨_,e,_⟩:=x.ob;Heap.lt_size e
section
variable {prog:Program} {w:World} {A:Around} {E:Value→Shared→Prop} {s:Shared}
theorem g6{t:Bool}{it l:Addr}{i:Nat}{items:Array Value}{x:Value}{Q:Value→Shared→Prop}(hit:eV t s.heap it l i)(hl:iu t s.heap l items)(hx:items[i]? =some x)
 (hQ:∀h',eV t h' it l (i+1)→Heap.SameBut it s.heap h'→Q x {s with heap:=h'}):wpAny (model prog w) A (Builtin.SmallTypes.nextOf (.ref it)) Q E s:=by
 cases t with
 | true=>exact jP hit hl hx hQ
 | false=>exact wpAny_nextOf_list_item hit hl hx hQ
theorem k4{t:Bool}{it l:Addr}{i:Nat}{items:Array Value}{Q:Value→Shared→Prop}(hh:A.handled=none)(hit:eV t s.heap it l i)(hl:iu t s.heap l items)(hx:items[i]? =none)
 (hE:∀h' e,Heap.ExtBut it s.heap h'→(∃o,h'.get? e=some o∧o.cls= .type "StopIteration")→E (.ref e) {s with heap:=h'}):wpAny (model prog w) A (Builtin.SmallTypes.nextOf (.ref it)) Q E s:=by
 cases t with
 | true=>exact ik hh hit hl hx hE
 | false=>exact wpAny_nextOf_list_end hh hit hl hx hE
theorem rH{t:Bool}{l:Addr}{items:Array Value}{Q:Value→Shared→Prop}(hl:iu t s.heap l items)
 (hQ:Q (.ref s.heap.objs.size) {s with heap:=s.heap.push {cls:= .type (oZ t),data:= .fields #[.ref l, .int 0 0]}}):wpAny (model prog w) A (pyIter (.ref l)) Q E s:=by
 cases t with
 | true=>exact wpAny_pyIter_tuple hl hQ
 | false=>exact wpAny_pyIter_list hl hQ
theorem yJ{t u:Bool}{z TI TO i1 i2 l1 l2:Addr}{k1 k2:Nat}{xs ys:Array Value}{x y a b:Value}{Q:Value→Shared→Prop}(D:ZipApart z TI TO i1 i2 l1 l2)(hz:IsZip s.heap z TI TO .none)(hTI:IsPair s.heap TI (.ref i1) (.ref i2))
 (hTO:IsPair s.heap TO a b) (h1:eV t s.heap i1 l1 k1) (h2:eV u s.heap i2 l2 k2) (hl1:iu t s.heap l1 xs) (hl2:iu u s.heap l2 ys) (hx:xs[k1]? =some x) (hy:ys[k2]? =some y)
 (hQ:∀h',IsZip h' z TI TO (rawInt s.heap.objs.size)→IsPair h' TO x y→eV t h' i1 l1 (k1+1)→eV u h' i2 l2 (k2+1)→IsPair h' s.heap.objs.size x y→h'.objs.size=s.heap.objs.size+1→(∀c o,c≠z→c≠TO→c≠i1→c≠i2→s.heap.get? c=some o→h'.get? c=some o)→Q (.ref s.heap.objs.size) {s with heap:=h'}) :
 wpAny (model prog w) A (Builtin.«zip.__next__» ⟨[.ref z],[]⟩) (fun fin s'=>∃v,fin= .done (.ret v)∧Q v s') E s:=by
 show wpAny _ _ (field (.ref z) 2 >>=_) _ _ _;refine wpAny_bind (wpAny_field hz rfl (x:= .bool false) rfl ?_);show wpAny _ _ (field (.ref z) 3 >>=_) _ _ _
 refine wpAny_bind (wpAny_field hz rfl (x:= .ref TI) rfl ?_);refine wpAny_bind (wpAny_seqItems hTI rfl ?_);show wpAny _ _ (Builtin.SmallTypes.ownedTupleIsFree (.ref z) >>=_) _ _ _
 refine wpAny_bind ?_;unfold Builtin.SmallTypes.ownedTupleIsFree;refine wpAny_bind (wpAny_field hz rfl (x:= .none) rfl (wpAny_pure ?_));simp only[if_true]
 refine wpAny_bind (wpAny_rule ?_);refine wpAny_bind (wpAny_field hz rfl (x:= .ref TO) rfl ?_);refine wpAny_bind (wpAny_setField_rec hz (by simp) fun h₁ hz₁ hs₁=>?_)
 replace hz₁:IsZip h₁ z TI TO .ellipsis:=hz₁;refine wpAny_bind ?_;simp only[List.zipIdx_cons,List.zipIdx_nil,List.forIn_cons,List.forIn_nil]
 refine wpAny_bind (wpAny_bind (wpAny_onRaise ?_));show wpAny _ _ (Builtin.SmallTypes.nextOf (.ref i1) >>=_) _ _ _
 refine wpAny_bind (g6 (h1.xb hs₁.extBut D.i1z) (hl1.xb hs₁.extBut D.l1z) hx fun h₂ h1₂ hs₂=>wpAny_pure ?_)
 have hTO₂:IsPair h₂ TO a b:=hs₂.extBut _ _ D.TOi1 (hs₁.extBut _ _ D.TOz hTO);refine wpAny_bind (wpAny_seqItems hTO₂ rfl ?_);refine wpAny_bind (wpAny_updateSeq_pair hTO₂ fun h₃ hTO₃ hs₃=>?_)
 replace hTO₃:IsPair h₃ TO x b:=hTO₃;refine wpAny_bind (wpAny_letGo (wpAny_pure ?_));refine wpAny_bind (wpAny_bind (wpAny_onRaise ?_));show wpAny _ _ (Builtin.SmallTypes.nextOf (.ref i2) >>=_) _ _ _
 refine wpAny_bind (g6 (((h2.xb hs₁.extBut D.i2z).xb hs₂.extBut D.i12.symm).xb hs₃.extBut D.TOi2.symm) (((hl2.xb hs₁.extBut D.l2z).xb hs₂.extBut D.l2i1).xb hs₃.extBut D.l2TO) hy fun h₄ h2₄ hs₄=>wpAny_pure ?_)
 have hTO₄:IsPair h₄ TO x b:=hs₄.extBut _ _ D.TOi2 hTO₃;refine wpAny_bind (wpAny_seqItems hTO₄ rfl ?_);refine wpAny_bind (wpAny_updateSeq_pair hTO₄ fun h₅ hTO₅ hs₅=>?_)
 replace hTO₅:IsPair h₅ TO x y:=hTO₅;refine wpAny_bind (wpAny_letGo (wpAny_pure (wpAny_pure ?_)));refine wpAny_bind (wpAny_seqItems hTO₅ rfl ?_);refine wpAny_bind (wpAny_newTuple ?_)
 have hsz:h₅.objs.size=s.heap.objs.size:=(hs₅.1.trans (hs₄.1.trans (hs₃.1.trans (hs₂.1.trans hs₁.1))))
 have hz₅:IsZip h₅ z TI TO .ellipsis:=hs₅.extBut _ _ D.TOz.symm <| hs₄.extBut _ _ D.i2z.symm <| hs₃.extBut _ _ D.TOz.symm <| hs₂.extBut _ _ D.i1z.symm hz₁
 have hk₅:∀c o,c≠z→c≠TO→c≠i1→c≠i2→s.heap.get? c=some o→h₅.get? c=some o:=fun c o c1 c2 c3 c4 e=>hs₅.extBut _ _ c2 <| hs₄.extBut _ _ c4 <| hs₃.extBut _ _ c2 <| hs₂.extBut _ _ c3 <| hs₁.extBut _ _ c1 e
 have h1₅:eV t h₅ i1 l1 (k1+1):=((h1₂.xb hs₃.extBut D.TOi1.symm).xb hs₄.extBut D.i12).xb hs₅.extBut D.TOi1.symm
 have h2₅:eV u h₅ i2 l2 (k2+1):=h2₄.xb hs₅.extBut D.TOi2.symm
 have hzlt:=Heap.lt_size hz₅
 show wpAny _ _ (Builtin.SmallTypes.ownedTupleHandOut (.ref z) (.ref h₅.objs.size) >>=_) _ _ _;refine wpAny_bind ?_;unfold Builtin.SmallTypes.ownedTupleHandOut
 have hz₆:IsZip (h₅.push {cls:= .type "tuple",data:= .seq #[x,y]}) z TI TO .ellipsis:=Heap.get?_push_of_some _ hz₅;refine wpAny_bind (wpAny_setField_rec hz₆ (by simp) fun h₇ hz₇ hs₇=>?_)
 replace hz₇:IsZip h₇ z TI TO (rawInt h₅.objs.size):=hz₇;refine wpAny_setField_rec hz₇ (by simp) fun h₈ hz₈ hs₈=>?_;replace hz₈:IsZip h₈ z TI TO (rawInt h₅.objs.size):=hz₈
 have up:∀c o,c≠z→h₅.get? c=some o→h₈.get? c=some o:=fun c o c1 e=>hs₈.extBut _ _ c1 <| hs₇.extBut _ _ c1 (Heap.get?_push_of_some _ e)
 have hT₈:IsPair h₈ h₅.objs.size x y:=hs₈.extBut _ _ (Nat.ne_of_gt hzlt) <| hs₇.extBut _ _ (Nat.ne_of_gt hzlt) (Heap.get?_push_size _ rfl)
 have hz8:h₈.objs.size=h₅.objs.size+1:=(hs₈.1.trans hs₇.1).trans (Heap.size_push ..)
 rw[hsz] at hz₈ hT₈ hz8;refine wpAny_pure ⟨_,rfl,?_⟩;show Q (.ref h₅.objs.size) _;rw [hsz]
 exact hQ h₈ hz₈ (up _ _ D.TOz hTO₅) (h1₅.at fun o e=>up _ o D.i1z e) (h2₅.at fun o e=>up _ o D.i2z e) hT₈ hz8 fun c o c1 c2 c3 c4 e=>up c o c1 (hk₅ c o c1 c2 c3 c4 e)
theorem BM{t u:Bool}{z TI TO i1 i2 l1 l2:Addr}{k1 k2:Nat}{xs ys:Array Value}{a b:Value}{Q:Fin→Shared→Prop}(hh:A.handled=none)(D:ZipApart z TI TO i1 i2 l1 l2)(hz:IsZip s.heap z TI TO .none)
 (hTI:IsPair s.heap TI (.ref i1) (.ref i2)) (hTO:IsPair s.heap TO a b) (h1:eV t s.heap i1 l1 k1) (h2:eV u s.heap i2 l2 k2) (hl1:iu t s.heap l1 xs) (hl2:iu u s.heap l2 ys) (hend:xs[k1]? =none∨ys[k2]? =none)
 (hE:∀h' e,(∀c o,c≠z→c≠TO→c≠i1→c≠i2→s.heap.get? c=some o→h'.get? c=some o)→(∃o,h'.get? e=some o∧o.cls= .type "StopIteration")→E (.ref e) {s with heap:=h'}):wpAny (model prog w) A (Builtin.«zip.__next__» ⟨[.ref z],[]⟩) Q E s:=by
 show wpAny _ _ (field (.ref z) 2 >>=_) _ _ _;refine wpAny_bind (wpAny_field hz rfl (x:= .bool false) rfl ?_);show wpAny _ _ (field (.ref z) 3 >>=_) _ _ _
 refine wpAny_bind (wpAny_field hz rfl (x:= .ref TI) rfl ?_);refine wpAny_bind (wpAny_seqItems hTI rfl ?_);show wpAny _ _ (Builtin.SmallTypes.ownedTupleIsFree (.ref z) >>=_) _ _ _
 refine wpAny_bind ?_;unfold Builtin.SmallTypes.ownedTupleIsFree;refine wpAny_bind (wpAny_field hz rfl (x:= .none) rfl (wpAny_pure ?_));simp only[if_true]
 refine wpAny_bind (wpAny_rule ?_);refine wpAny_bind (wpAny_field hz rfl (x:= .ref TO) rfl ?_);refine wpAny_bind (wpAny_setField_rec hz (by simp) fun h₁ hz₁ hs₁=>?_)
 replace hz₁:IsZip h₁ z TI TO .ellipsis:=hz₁;refine wpAny_bind ?_;simp only[List.zipIdx_cons,List.zipIdx_nil,List.forIn_cons,List.forIn_nil]
 refine wpAny_bind (wpAny_bind (wpAny_onRaise ?_));show wpAny _ _ (Builtin.SmallTypes.nextOf (.ref i1) >>=_) _ _ _
 cases hx:xs[k1]? with
 | none=>
   refine wpAny_bind (k4 hh (h1.xb hs₁.extBut D.i1z) (hl1.xb hs₁.extBut D.l1z) hx fun h₂ e hs₂ he=>?_)
   obtain⟨oe,hoe,hce⟩:=he;have hz₂:IsZip h₂ z TI TO .ellipsis:=hs₂ _ _ D.i1z.symm hz₁
   have hez:e≠z:=fun x=>by {subst x;rw [hz₂] at hoe;cases hoe;simp at hce}
   exact wpAny_setField_rec hz₂ (by simp) fun h₃ _ hs₃=>hE h₃ e (fun c o c1 _ c3 _ x=>hs₃.extBut _ _ c1 <| hs₂ _ _ c3 <| hs₁.extBut _ _ c1 x) ⟨oe,hs₃.extBut _ _ hez hoe,hce⟩
 | some x=>
   have hy:ys[k2]? =none:=hend.resolve_left fun h=>by {rw [hx] at h;cases h}
   refine wpAny_bind (g6 (h1.xb hs₁.extBut D.i1z) (hl1.xb hs₁.extBut D.l1z) hx fun h₂ h1₂ hs₂=>wpAny_pure ?_)
   have hTO₂:IsPair h₂ TO a b:=hs₂.extBut _ _ D.TOi1 (hs₁.extBut _ _ D.TOz hTO);refine wpAny_bind (wpAny_seqItems hTO₂ rfl ?_);refine wpAny_bind (wpAny_updateSeq_pair hTO₂ fun h₃ hTO₃ hs₃=>?_)
   refine wpAny_bind (wpAny_letGo (wpAny_pure ?_));refine wpAny_bind (wpAny_bind (wpAny_onRaise ?_));show wpAny _ _ (Builtin.SmallTypes.nextOf (.ref i2) >>=_) _ _ _
   refine wpAny_bind (k4 hh (((h2.xb hs₁.extBut D.i2z).xb hs₂.extBut D.i12.symm).xb hs₃.extBut D.TOi2.symm) (((hl2.xb hs₁.extBut D.l2z).xb hs₂.extBut D.l2i1).xb hs₃.extBut D.l2TO) hy fun h₄ e hs₄ he=>?_)
   obtain⟨oe,hoe,hce⟩:=he;have hz₄:IsZip h₄ z TI TO .ellipsis:=hs₄ _ _ D.i2z.symm <| hs₃.extBut _ _ D.TOz.symm <| hs₂.extBut _ _ D.i1z.symm hz₁
   have hez:e≠z:=fun x=>by {subst x;rw [hz₄] at hoe;cases hoe;simp at hce}
   exact wpAny_setField_rec hz₄ (by simp) fun h₅ _ hs₅=>hE h₅ e (fun c o c1 c2 c3 c4 x=>hs₅.extBut _ _ c1 <| hs₄ _ _ c4 <| hs₃.extBut _ _ c2 <| hs₂.extBut _ _ c3 <| hs₁.extBut _ _ c1 x) ⟨oe,hs₅.extBut _ _ hez hoe,hce⟩
end
noncomputable abbrev Ip(t:Bool)(h:Heap)(l1:Addr):Heap:=h.push {cls:= .type (oZ t),data:= .fields #[.ref l1, .int 0 0]}
noncomputable abbrev Iy(t u:Bool)(h:Heap)(l1 l2:Addr):Heap:=(Ip t h l1).push {cls:= .type (oZ u),data:= .fields #[.ref l2, .int 0 0]}
noncomputable abbrev Im(t u:Bool)(h:Heap)(l1 l2:Addr):Heap:=(Iy t u h l1 l2).push {cls:= .type "tuple",data:= .seq #[.ref h.objs.size, .ref (Ip t h l1).objs.size]}
noncomputable abbrev IB(t u:Bool)(h:Heap)(l1 l2:Addr):Heap:=(Im t u h l1 l2).push {cls:= .type "tuple",data:= .seq #[.none, .none]}
noncomputable abbrev GH(t u:Bool)(h:Heap)(l1 l2:Addr):Heap:=(IB t u h l1 l2).push {cls:= .type "zip",data:= .fields #[.none, .bool false, .bool false, .ref (Iy t u h l1 l2).objs.size, .ref (Im t u h l1 l2).objs.size]}
theorem wJ(t u:Bool)(l1 l2:Addr)(xs ys:Array Value):Meets (Builtin.«zip.__new__» ⟨[.type "zip", .ref l1, .ref l2],[]⟩) (fun _ R s=>iu t s.heap l1 xs∧iu u s.heap l2 ys∧R (.ok (.ret (.ref (IB t u s.heap l1 l2).objs.size))) {s with heap:=GH t u s.heap l1 l2}):=
 .of_wp fun prog w A R s h=>by
  obtain⟨hp,g,d,tk,os⟩:=s
  obtain⟨hl1,hl2,h⟩:=h;have hsub:=sub_zip
  have hL1:iu t (Shared.heap ⟨hp,g,d,tk,os⟩) l1 xs:=hl1
  have hL2:iu u (Shared.heap ⟨hp.push {cls:= .type (oZ t),data:= .fields #[.ref l1, .int 0 0]},g,d,tk,os⟩) l2 ys:=hl2.at fun o e=>Heap.get?_push_of_some _ e
  wp_walk using rH hL1,rH hL2
  exact⟨_,rfl,h⟩
theorem eV.new{t:Bool}{h:Heap}{i l:Addr}(e:h.get? i=some {cls:= .type (oZ t),data:= .fields #[.ref l, .int 0 0]}):eV t h i l 0:=by
 cases t with
 | true=>exact⟨_,e,rfl,rfl⟩
 | false=>exact⟨_,e,rfl,rfl⟩
theorem yO{prog:Program}{w:World}{A:Around}{E:Value→Shared→Prop}{s:Shared}{t u:Bool}{l1 l2:Addr}{xs ys:Array Value}{Q:Value→Shared→Prop}(hl1:iu t s.heap l1 xs)(hl2:iu u s.heap l2 ys)
 (h:∀h',IsZip h' (s.heap.objs.size+4) (s.heap.objs.size+2) (s.heap.objs.size+3) .none→IsPair h' (s.heap.objs.size+2) (.ref s.heap.objs.size) (.ref (s.heap.objs.size+1))→IsPair h' (s.heap.objs.size+3) .none .none→
   eV t h' s.heap.objs.size l1 0→eV u h' (s.heap.objs.size+1) l2 0→(∀c o,s.heap.get? c=some o→h'.get? c=some o)→Q (.ref (s.heap.objs.size+4)) {s with heap:=h'}):wpAny (model prog w) A (call (.type "zip") [.ref l1, .ref l2]) Q E s:=by
 refine callType_new F.called_zip (by decide) (F.typeCall_zip_2 _ _) (F.newCall_zip_2 _ _) (fun obj=>F.args_object_init_3 obj _ _) F.entry_zip_new (wJ t u l1 l2 xs ys) ⟨hl1,hl2,?_⟩
 have z1:(Ip t s.heap l1).objs.size=s.heap.objs.size+1:=Heap.size_push ..
 have z2:(Iy t u s.heap l1 l2).objs.size=s.heap.objs.size+2:=(Heap.size_push ..).trans (congrArg (·+1) z1)
 have z3:(Im t u s.heap l1 l2).objs.size=s.heap.objs.size+3:=(Heap.size_push ..).trans (congrArg (·+1) z2)
 have z4:(IB t u s.heap l1 l2).objs.size=s.heap.objs.size+4:=(Heap.size_push ..).trans (congrArg (·+1) z3)
 have g5:(GH t u s.heap l1 l2).get? (IB t u s.heap l1 l2).objs.size=some _:=Heap.get?_push_size _ rfl
 have g4:(GH t u s.heap l1 l2).get? (Im t u s.heap l1 l2).objs.size=some _:=Heap.get?_push_of_some _ (Heap.get?_push_size _ rfl)
 have g3:(GH t u s.heap l1 l2).get? (Iy t u s.heap l1 l2).objs.size=some _:=Heap.get?_push_of_some _ <| Heap.get?_push_of_some _ (Heap.get?_push_size _ rfl)
 have g2:(GH t u s.heap l1 l2).get? (Ip t s.heap l1).objs.size=some _:=Heap.get?_push_of_some _ <| Heap.get?_push_of_some _ <| Heap.get?_push_of_some _ (Heap.get?_push_size _ rfl)
 have g1:(GH t u s.heap l1 l2).get? s.heap.objs.size=some _:=Heap.get?_push_of_some _ <| Heap.get?_push_of_some _ <| Heap.get?_push_of_some _ <| Heap.get?_push_of_some _ (Heap.get?_push_size _ rfl)
 show _∧_
 rw[z2,z3,z4] at g5;rw [z1,z2] at g3;rw [z3] at g4;rw [z1] at g2;rw [z4]
 exact⟨⟨_,g5,rfl⟩,h _ g5 g3 g4 (eV.new g1) (eV.new g2) fun c o x=>Heap.get?_push_of_some _ <| Heap.get?_push_of_some _ <| Heap.get?_push_of_some _ <| Heap.get?_push_of_some _ <| Heap.get?_push_of_some _ x⟩
end PySem
namespace L2
open PySem PySem.Spec PyProof.Rows
noncomputable def BY(t:Bool)(K:PySem.W.Frag)(H:Hp)(a:Addr)(xs:List V):Prop:=cond t (nH K H a xs) (lR K H a xs)
theorem Inv.Ct{X:Cx}{pins:List (Addr × Obj)}{σ:L2.St}{H:Hp}{s:Shared}{t:Bool}{a:Addr}{xs:List V}(I:Inv X pins σ H s)(h:BY t X.K H a xs):∃its:List Value,Vals xs its∧iu t s.heap a its.toArray:=by
 cases t with
 | true=>obtain⟨its,r,p,_⟩:=I.tuple h;exact⟨its,r,p⟩
 | false=>obtain⟨its,r,p,_⟩:=I.list h;exact⟨its,r,p.isList⟩
theorem Inv.xW{X:Cx}{pins:List (Addr × Obj)}{σ:L2.St}{H:Hp}{s:Shared}{t:Bool}{a:Addr}{xs ys:List V}(I:Inv X pins σ H s)(h:BY t X.K H a xs)(h':BY t X.K H a ys):xs=ys:=by
 cases t with
 | true=>exact I.nk h h'
 | false=>exact I.mj h h'
noncomputable def K8(K:PySem.W.Frag)(t u:Bool)(a b:Addr):It:=
 ⟨fun i H=>∃xs ys x y,BY t K H a xs∧BY u K H b ys∧xs[i]? =some x∧ys[i]? =some y,
  fun i H v H'=>∃p x y,H p=none∧v= .ref p∧(∀xs,BY t K H a xs→xs[i]? =some x)∧(∀ys,BY u K H b ys→ys[i]? =some y)∧H'=upd H p (.tup [x,y]),
  fun i H=>∃xs ys,BY t K H a xs∧BY u K H b ys∧(xs.length≤i∨ys.length≤i)⟩
theorem Bh{P:Program}{w:World}{K:PySem.W.Frag}{elts:List Expr}{k:Nat}{pos:Pos}{t u:Bool}{z TI TO i1 i2 a b:Addr}(D:ZipApart z TI TO i1 i2 a b):Turn P w K (.Tuple elts k pos) (K8 K t u a b) [z,TI,TO,i1,i2] z
 (fun i h=>IsZip h z TI TO .none∧IsPair h TI (.ref i1) (.ref i2)∧(∃x y,IsPair h TO x y)∧eV t h i1 a i∧eV u h i2 b i) where
 mem:=by simp
 obj:=fun i h st c hc=>by
  obtain⟨hz,hTI,⟨x,y,hTO⟩,h1,h2⟩:=st
  simp only[List.mem_cons,List.not_mem_nil,or_false] at hc
  rcases hc with rfl | rfl | rfl | rfl | rfl
  ·exact⟨_,hz,fun v z=>by cases z⟩
  ·exact⟨_,hTI,fun v z=>by cases z⟩
  ·exact⟨_,hTO,fun v z=>by cases z⟩
  ·exact h1.ob
  ·exact h2.ob
 keep:=fun i h h' st k=>by
  obtain⟨hz,hTI,⟨x,y,hTO⟩,h1,h2⟩:=st
  exact⟨k z (by simp) _ hz,k TI (by simp) _ hTI,⟨x,y,k TO (by simp) _ hTO⟩,h1.at fun o e=>k i1 (by simp) o e,h2.at fun o e=>k i2 (by simp) o e⟩
 item:=by
  intro X hP hw hK hc i pins s σ H E I hf st hg
  subst hP hw hK
  obtain⟨xs,ys,x,y,hq,hr,hx,hy⟩:=hg
  obtain⟨its,rv,p⟩:=I.Ct hq
  obtain⟨jts,rw',p'⟩:=I.Ct hr
  obtain⟨ux,hu,ru⟩:=rv.get hx
  obtain⟨uy,hu',ru'⟩:=rw'.get hy
  obtain⟨hz,hTI,⟨a0,b0,hTO⟩,h1,h2⟩:=st
  have hT:s.TypeIs (.ref z) "zip":=⟨_,hz,rfl⟩
  unfold pyNext
  refine wpAny_bind (wpAny_attempt (wpAny_callSpecial?_slot (name:=Str.ofString "__next__") hT F.slot_zip_next (wpAny_call_entry F.slot_zip_next hT F.entry_zip_next (yJ D hz hTI hTO h1 h2 p p' (x:=ux) (y:=uy) (by simpa using hu) (by simpa using hu') fun h₁ a1 a2 a3 a4 a5 a6 hk₁=>wpAny_pure ?_) (F.args_zip_next_1 _))))
  refine⟨_,rfl,wpAny_letOwnedTupleGo_zip a1 fun h₂ hz₂ hs₂=>?_⟩
  replace hs₂:Heap.SameBut z h₁ h₂:=hs₂
  have hzl:z < s.heap.objs.size:=Heap.lt_size hz
  have ht₂:h₂.get? s.heap.objs.size=some {cls:= .type "tuple",data:= .seq #[ux,uy]}:=(hs₂.2 _ (Nat.ne_of_gt hzl)).trans a5
  have kk:∀b o,b≠z→b≠TO→b≠i1→b≠i2→s.heap.get? b=some o→h₂.get? b=some o:=fun b o c1 c2 c3 c4 q=>(hs₂.2 b c1).trans (hk₁ b o c1 c2 c3 c4 q)
  have hn:H s.heap.objs.size=none:=I.fresh
  have sm:aK H (upd H s.heap.objs.size (.tup [x,y])):=aD hn
  have f0:∀c∈[z,TI,TO,i1,i2],H c=none:=fun c hc=>(hf c hc).1
  have nit:∀b o,H b=some o→b≠z∧b≠TO∧b≠i1∧b≠i2:=fun b o q=>by
   refine⟨fun e=>?_,fun e=>?_,fun e=>?_,fun e=>?_⟩
   ·rw[e,f0 z (by simp)] at q;cases q
   ·rw[e,f0 TO (by simp)] at q;cases q
   ·rw[e,f0 i1 (by simp)] at q;cases q
   ·rw[e,f0 i2 (by simp)] at q;cases q
  have kH:∀b o q,H b=some q→s.heap.get? b=some o→h₂.get? b=some o:=fun b o q hb e=>let⟨c1,c2,c3,c4⟩:=nit b q hb;kk b o c1 c2 c3 c4 e
  have hok:kL X.prog X.w (upd H s.heap.objs.size (.tup [x,y])) h₂:=fun b ob q=>by
   by_cases hb:b=s.heap.objs.size
   ·subst hb
    rw[aN] at q
    cases q
    exact⟨by show 2≤sizeLine;decide,[ux,uy], .cons ru (.cons ru' .nil),⟨_,ht₂,rfl,_,rfl⟩⟩
   ·rw[aT hb] at q
    refine(I.hok b ob q).tu (fun c v hc e=>?_) (fun c e=>sm c _ e) fun c ys e=>sm c _ e
    rcases hc with rfl | hc
    ·exact kH c v _ q e
    ·exact kH c v _ hc e
  have nch:∀b,b ∉ [z,TI,TO,i1,i2]→b≠z∧b≠TO∧b≠i1∧b≠i2:=fun b hb=>⟨fun e=>hb (by simp [e]),fun e=>hb (by simp [e]),fun e=>hb (by simp [e]),fun e=>hb (by simp [e])⟩
  have kc:∀b o,b ∉ [z,TI,TO,i1,i2]→s.heap.get? b=some o→h₂.get? b=some o:=fun b o hb e=>let⟨c1,c2,c3,c4⟩:=nch b hb;kk b o c1 c2 c3 c4 e
  have I2:Inv X pins σ (upd H s.heap.objs.size (.tup [x,y])) {s with heap:=h₂,toks:=s.toks}:=by
   refine I.step (g':=s.gens) (d':=s.drawn) (ch:=[z,TI,TO,i1,i2]) (fun b hb=>?_) (fun b o _ _ hb q _=>kc b o hb q) (fun b o _ _ hb q _=>⟨o.slots,kc b o hb q⟩)
    (fun b o hb q n=>by rw[aT (Nat.ne_of_lt (Heap.lt_size q))];exact n) (fun b o hb q=>⟨o,kc b o hb q⟩) (fun b ys e=>sm b _ e) (fun b o u e=>sm b _ e) (fun b ps e=>⟨#[],by rw[sm b _ e];simp⟩) (fun m hm=>?_) hok I.bare
   ·obtain⟨g0,g1,g2,g3,g4,g5⟩:=hf b hb
    exact⟨g3,g1,g4,g5⟩
   ·obtain⟨o,es,ep,ho,r⟩:=hm
    refine⟨o,es,ep,kc _ o (fun hb=>?_) ho,r⟩
    exact(hf _ hb).2.1 rfl
  have up:∀c,c≠z→∀o,h₁.get? c=some o→h₂.get? c=some o:=fun c hc o e=>(hs₂.2 c hc).trans e
  refine⟨.ref s.heap.objs.size,_,I2,rfl,⟨s.heap.objs.size,x,y,hn,rfl,fun zs hy'=>(by rw[I.xW hy' hq];exact hx),fun zs hy'=>(by rw[I.xW hy' hr];exact hy),rfl⟩,
   ⟨hz₂,up _ D.TIz _ (hk₁ TI _ D.TIz D.TITO D.TIi1 D.TIi2 hTI),⟨_,_,up _ D.TOz _ a2⟩,a3.at fun o e=>up _ D.i1z o e,a4.at fun o e=>up _ D.i2z o e⟩,fun c hc=>?_⟩
  have hlt:c < s.heap.objs.size:=by
   simp only[List.mem_cons,List.not_mem_nil,or_false] at hc
   rcases hc with rfl | rfl | rfl | rfl | rfl
   ·exact hzl
   ·exact Heap.lt_size hTI
   ·exact Heap.lt_size hTO
   ·exact h1.lt
   ·exact h2.lt
  rw[aT (Nat.ne_of_lt hlt)]
  exact f0 c hc
 done:=by
  intro X hP hw hK hc i pins s σ H E I hf st hg
  subst hP hw hK
  obtain⟨xs,ys,hq,hr,hl⟩:=hg
  obtain⟨its,rv,p⟩:=I.Ct hq
  obtain⟨jts,rw',p'⟩:=I.Ct hr
  obtain⟨hz,hTI,⟨a0,b0,hTO⟩,h1,h2⟩:=st
  have hT:s.TypeIs (.ref z) "zip":=⟨_,hz,rfl⟩
  have l1:=rv.length
  have l2:=rw'.length
  unfold pyNext
  refine wpAny_bind (wpAny_attempt (wpAny_callSpecial?_slot (name:=Str.ofString "__next__") hT F.slot_zip_next (wpAny_call_entry F.slot_zip_next hT F.entry_zip_next (BM (I.ok.hd hc) D hz hTI hTO h1 h2 p p' ?_ fun h' e hk he=>?_) (F.args_zip_next_1 _))))
  ·rcases hl with hl | hl
   ·exact .inl (by simp;omega)
   ·exact .inr (by simp;omega)
  obtain⟨o,ho,hcl⟩:=he
  refine wpAny_bind (wpAny_isInstance (T:="StopIteration") (b:=true) ⟨o,ho,hcl⟩ isSubtype_stop ?_)
  have nch:∀b,b ∉ [z,TI,TO,i1,i2]→b≠z∧b≠TO∧b≠i1∧b≠i2:=fun b hb=>⟨fun e=>hb (by simp [e]),fun e=>hb (by simp [e]),fun e=>hb (by simp [e]),fun e=>hb (by simp [e])⟩
  have kc:∀b o,b ∉ [z,TI,TO,i1,i2]→s.heap.get? b=some o→h'.get? b=some o:=fun b o hb e=>let⟨c1,c2,c3,c4⟩:=nch b hb;hk b o c1 c2 c3 c4 e
  have f0:∀c∈[z,TI,TO,i1,i2],H c=none:=fun c hc=>(hf c hc).1
  have kH:∀b o q,H b=some q→s.heap.get? b=some o→h'.get? b=some o:=fun b o q hb e=>kc b o (fun z=>by rw[f0 b z] at hb;cases hb) e
  refine wpAny_pure ⟨rfl,?_⟩
  refine I.step (h':=h') (H':=H) (g':=s.gens) (d':=s.drawn) (t':=s.toks) (ch:=[z,TI,TO,i1,i2]) (fun b hb=>?_) (fun b o _ _ hb q _=>kc b o hb q) (fun b o _ _ hb q _=>⟨o.slots,kc b o hb q⟩)
   (fun b o hb q n=>n) (fun b o hb q=>⟨o,kc b o hb q⟩) (fun b ys e=>e) (fun b o u e=>e) (fun b ps e=>⟨#[],by rw[e];simp⟩) (fun m hm=>?_) (fun b ob q=>?_) I.bare
  ·obtain⟨g0,g1,g2,g3,g4,g5⟩:=hf b hb
   exact⟨g3,g1,g4,g5⟩
  ·obtain⟨o,es,ep,ho,r⟩:=hm
   refine⟨o,es,ep,kc _ o (fun hb=>?_) ho,r⟩
   exact(hf _ hb).2.1 rfl
  ·refine(I.hok b ob q).tu (fun c v hc e=>?_) (fun c e=>e) fun c ys e=>e
   rcases hc with rfl | hc
   ·exact kH c v _ q e
   ·exact kH c v _ hc e
 self:=fun A i s Q E st h=>wpAny_pyIter_zip st.1 h
section
variable {X:Cx}
noncomputable def uv(ds es:List D):List D:=(ds.zip es).map fun p=> .tup [p.1,p.2]
noncomputable def seqD?:D→Option (List D)
 | .lst ds=>some ds
 | .tup ds=>some ds
 | _=>none
noncomputable def JX(f g:FD):aq→R (List D):=fun δ=>(f δ).bind fun d=>(g δ).bind fun e=>match seqD? d,seqD? e with | some ds,some es=> .ok (uv ds es) | _,_=> .no
theorem Rep.Ct{K:PySem.W.Frag}{B:List Addr}{H:Hp}{d:D}{v:V}{ds:List D}(r:Rep K B H d v)(h:seqD? d=some ds):∃t a xs,v= .ref a∧(∀B' H',c_ B H B' H'→BY t K H' a xs∧ay K B' H' ds xs):=by
 cases d with
 | lst es=>
   cases h
   obtain⟨a,xs,rfl,l,rs⟩:=Rep.lst.mp r
   exact⟨false,a,xs,rfl,fun B' H' p=>⟨(l.aZ p).sq,rs.aZ p⟩⟩
 | tup es=>
   cases h
   obtain⟨a,xs,rfl,l,rs⟩:=Rep.tup.mp r
   refine⟨true,a,xs,rfl,fun B' H' p=>⟨?_,rs.aZ p⟩⟩
   have l':qO K B' H' a xs:=l.elim (fun z=> .inl ⟨(p.rd z.2 z.1).2,(p.rd z.2 z.1).1⟩) .inr
   exact l'.sq
 | _=>cases h
noncomputable def Kq(T U:String)(f:FD):FD:=fun δ=>(f δ).bind fun d=>match d with | .dct _ _=> .no | _=> .ok (.bl (mr (tyName d) T || mr (tyName d) U))
noncomputable def Kz(lo:Int)(n:Nat):It:=⟨fun i _=>i < n,fun i H x H'=>H'=H∧x= .int (lo - i),fun i _=>n≤i⟩
theorem uC{P:Program}{w:World}{K:PySem.W.Frag}{tg:Expr}(it:Addr)(lo:Int)(n:Nat):Turn P w K tg (Kz lo n) [it] it (fun i h=>IsRangeIter h it (lo+(i:Nat)*(-1)) ((n:Int) - (i:Nat)) (-1)) where
 mem:=by simp
 obj:=fun i h st b hb=>by
  have e:b=it:=by simpa using hb
  subst e
  exact⟨_,st,fun v z=>by
   have z':Data.fields _=Data.cell v:=z
   cases z'⟩
 keep:=fun i h h' st k=>k it (by simp) _ st
 item:=by
  intro X hP hw hK hc i pins s σ H E I hf st hg
  subst hP hw hK
  obtain⟨f0,f1,f2,f3,f4,f5⟩:=hf it (by simp)
  have W:=Walks.range (prog:=X.prog) (w:=X.w) (I.ok.hd hc) it lo (-1) n
  refine W.item i s _ _ hg st fun v h' tk hv st' kk=>?_
  obtain⟨t,rfl⟩:=hv
  have I1:Inv X pins σ H {s with heap:=h',toks:=tk}:=I.turned (fun b o hb e=>kk b o (by simpa using hb) e) f0 f1 f3 f4 f5
  refine⟨_,rfl,ud (s:={s with heap:=h',toks:=tk}) (n:="range_iterator") st' rfl rfl (by decide) ⟨.int (lo - i),H,I1,⟨t,?_⟩,⟨rfl,rfl⟩,st',fun b hb=>(hf b hb).1⟩⟩
  rw[show lo+(i:Int)*(-1)=lo - i by omega]
 done:=by
  intro X hP hw hK hc i pins s σ H E I hf st hg
  subst hP hw hK
  obtain⟨f0,f1,f2,f3,f4,f5⟩:=hf it (by simp)
  exact wpAny_pyNext_range_end (I.ok.hd hc) st (by have:n≤i:=hg;omega) fun h' eb=>⟨rfl,I.turned (t':=s.toks) (fun b o hb e=>eb b o hb e) f0 f1 f3 f4 f5⟩
 self:=fun _ _ _ _ _ st h=>wpAny_pyIter_rangeiter st h
theorem kT(a b:Int):Builtin.Range.rangeSize a b (-1)=((a - b).toNat:Int):=by
 unfold Builtin.Range.rangeSize
 rw[if_neg (by omega),show(-(-1:Int))=1 from rfl,Int.ediv_one]
 split <;> omega
theorem yQ{a b:Int}(h1: -(2 ^ 60)≤a)(h2:a < 2 ^ 60)(h3: -(2 ^ 60)≤b)(h4:b < 2 ^ 60):Builtin.Range.small a b (-1)=true:=by
 unfold Builtin.Range.small
 rw[kT]
 simp only[Builtin.Range.rangeFitsLong,Bool.and_eq_true,Bool.or_eq_true,decide_eq_true_eq,beq_iff_eq]
 simp
 omega
noncomputable def o8(lo:Int)(n:Nat):List D:=(List.range n).map fun(i:Nat)=>D.int (lo - i)
theorem EW{K:PySem.W.Frag}{B:List Addr}{H:Hp}(lo:Int)(n:Nat):xH K B H (Kz lo n) (o8 lo n):=fun B' H' _=>by
 refine⟨fun i d hd=>?_,?_⟩
 ·unfold o8 at hd
  rw[List.getElem?_map] at hd
  cases e:(List.range n)[i]? with
  | none=>rw [e] at hd;cases hd
  | some j=>
    rw[e] at hd
    cases hd
    obtain⟨hi,ej⟩:=List.getElem?_eq_some_iff.mp e
    rw[List.getElem_range] at ej
    subst ej
    rw[List.length_range] at hi
    exact⟨hi,fun x H'' ⟨e1,e2⟩ _=>by subst e1 e2;exact⟨aK.refl _,Rep.int.mpr rfl⟩⟩
 ·show n≤(o8 lo n).length
  unfold o8
  rw[List.length_map,List.length_range]
  exact Nat.le_refl _
noncomputable def Bf(f g h:FD):aq→R (List D):=fun δ=>(f δ).bind fun d=>(g δ).bind fun e=>(h δ).bind fun k=>match d,e,k with
 | .int i, .int j, .int m=>R.bt (decide (m= -1∧ -(2 ^ 60)≤i∧i < 2 ^ 60∧ -(2 ^ 60)≤j∧j < 2 ^ 60)) (.ok (o8 i (i - j).toNat)) | _,_,_=> .no
theorem vals3{x y z:V}{us:List Value}(r:Vals [x,y,z] us):∃u v w',us=[u,v,w']∧RelV x u∧RelV y v∧RelV z w':=by
 cases r with
 | cons r1 r2=>obtain⟨v,w',rfl,h1,h2⟩:=vals2 r2;exact⟨_,v,w',rfl,r1,h1,h2⟩
theorem BD{tg a b c:Expr}{f g h:FD}{p pos:Pos}(ha:QD X a f)(hb:QD X b g)(hc:QD X c h)(hg:Gl X "range")(hm:X.mg "range"=none)(hs:starEach [a,b,c] X.env=[(false,eval a X.env),(false,eval b X.env),(false,eval c X.env)]:=by rfl)(hs2:starEach [b,c] X.env=[(false,eval b X.env),(false,eval c X.env)]:=by rfl)(hs3:starEach [c] X.env=[(false,eval c X.env)]:=by rfl) :
 wX X tg (.Call (.Name "range" p) [a,b,c] [] pos) (Bf f g h):=by
 refine⟨?_⟩
 intro pins s σ H RR I ⟨Z,B,δ,ds,E,hf,q⟩
 obtain⟨d,h1,h2⟩:=R.ab hf
 obtain⟨e,h3,h4⟩:=R.ab h2
 obtain⟨k,h5,h6⟩:=R.ab h4
 have hA:=dz ha.1 (dz hb.1 (dz hc.1 f7 hs3) (by rw[hs2,hs3])) (by rw[hs,hs2]) pos pins s σ H (fun vs H1=>aK H H1∧∃v v' v'',vs=[v,v',v'']∧Rep X.K B H1 d v∧Rep X.K B H1 e v'∧Rep X.K B H1 k v'') I
  ⟨Z,B,δ,d,E,h1,fun v H1 s1 r1=>⟨Z,B,δ,e,E.same s1,h3,fun v' H2 s2 r2=>⟨Z,B,δ,k,(E.same s1).same s2,h5,fun v'' H3 s3 r3=>⟨(s1.trans s2).trans s3,v,v',v'',rfl,(r1.same s2).same s3,r2.same s3,r3⟩⟩⟩⟩
 refine Call_ (iM I hg hm boot_range (PyProof.Rows.callWith_type1 (dw hA fun us s1 ⟨vs,H1,I1,r1,ss,v,v',v'',ev,rr,rr',rr''⟩=>?_) (by rw[hs,hs2]) (by rw[hs2];rfl)))
 subst ev
 obtain⟨u,u',u'',rfl,ru,ru',ru''⟩:=vals3 r1
 obtain⟨i,rfl⟩:∃i,d= .int i:=by cases d <;> first | exact⟨_,rfl⟩ | cases h6
 obtain⟨j,rfl⟩:∃j,e= .int j:=by cases e <;> first | exact⟨_,rfl⟩ | cases h6
 obtain⟨m,rfl⟩:∃m,k= .int m:=by cases k <;> first | exact⟨_,rfl⟩ | cases h6
 ·obtain⟨hb,h7⟩:=R.aS h6
  cases h7
  obtain⟨rfl,b1,b2,b3,b4⟩:=of_decide_eq_true hb
  rw[Rep.int.mp rr] at ru
  rw[Rep.int.mp rr'] at ru'
  rw[Rep.int.mp rr''] at ru''
  obtain⟨t,rfl⟩:=ru
  obtain⟨t',rfl⟩:=ru'
  obtain⟨t'',rfl⟩:=ru''
  refine call_range_3 (by decide) ?_ (Or.inl ?_)
  ·refine wpAny_pyIter_range (IsRange.new ..) (yQ b1 b2 b3 b4) ?_
   have I2:Inv X pins σ H1 {s1 with heap:=s1.heap.push {cls:= .type "range",data:= .fields #[.int i t, .int j t', .int (-1) t'']},toks:=s1.toks}:=I1.kept fun b o e=>Heap.get?_push_of_some _ e
   refine⟨(s1.heap.push {cls:= .type "range",data:= .fields #[.int i t, .int j t', .int (-1) t'']}).objs.size,[(s1.heap.push {cls:= .type "range",data:= .fields #[.int i t, .int j t', .int (-1) t'']}).objs.size],_,_,H1,rfl,
    I2.kept (t':=s1.toks) fun b o e=>Heap.get?_push_of_some _ e,uC _ i (i - j).toNat,?_,fun b hb=>?_,q _ H1 ss (EW i _)⟩
   ·show IsRangeIter _ _ (i+((0:Nat):Int)*(-1)) ((((i - j).toNat:Nat):Int) - ((0:Nat):Int)) (-1)
    rw[show i+((0:Nat):Int)*(-1)=i by simp,show(((i - j).toNat:Nat):Int) - ((0:Nat):Int)=Builtin.Range.rangeSize i j (-1) by rw[kT];simp]
    exact Heap.get?_push_size _ rfl
   ·have e:b=(s1.heap.push {cls:= .type "range",data:= .fields #[.int i t, .int j t', .int (-1) t'']}).objs.size:=by simpa using hb
    subst e
    exact I2.n6 (Nat.le_refl _) (I2.hok.fresh (Nat.le_refl _))
  ·exact PyProof.noPylong_of_log2 (by decide+kernel)
noncomputable def bls?:List D→Option (List Bool)
 | []=>some []
 | .bl b ::ds=>(bls? ds).map (b ::·)
 | _ ::_=>none
theorem pB{K:PySem.W.Frag}{B:List Addr}{H:Hp}:∀{ds:List D} {xs:List V} {bs:List Bool},ay K B H ds xs→bls? ds=some bs→xs=bs.map V.bl
 | [],xs,bs,r,h=>by unfold ay at r;subst r;cases h;rfl
 | d ::ds,xs,bs,r,h=>by
   obtain⟨x,q,rfl,r1,r2⟩:=r.bA
   cases d with
   | bl b=>
     have h:(bls? ds).map (b ::·)=some bs:=h
     cases e:bls? ds with
     | none=>rw [e] at h;cases h
     | some cs=>
       rw[e] at h
       cases h
       rw[Rep.bl.mp r1,pB r2 e]
       rfl
   | _=>cases h
theorem oy:∀bs:List Bool,bls? (bs.map D.bl)=some bs
 | []=>rfl
 | b ::bs=>by show(bls? (bs.map D.bl)).map (b ::·)=_;rw [oy bs];rfl
theorem lO:∀{bs:List Bool} {us:List Value},Vals (bs.map V.bl) us→us=bs.map Value.bool
 | [],us,h=>by cases h;rfl
 | b ::bs,us,h=>by
   cases h with
   | cons r t=>rw [lO t,show _=Value.bool b from r];rfl
theorem range_all(bs:List Bool):(List.range bs.length).all (fun i=>bs.getD i false)=bs.all id:=by
 rw[Bool.eq_iff_iff]
 simp only[List.all_eq_true,List.mem_range,id]
 constructor
 ·intro h b hb
  obtain⟨i,hi,rfl⟩:=List.getElem_of_mem hb
  have:=h i hi
  rw[List.getD_eq_getElem?_getD,List.getElem?_eq_getElem hi] at this
  exact this
 ·intro h i hi
  rw[List.getD_eq_getElem?_getD,List.getElem?_eq_getElem hi]
  exact h _ (List.getElem_mem hi)
theorem range_any(bs:List Bool):(List.range bs.length).any (fun i=>bs.getD i false)=bs.any id:=by
 rw[Bool.eq_iff_iff]
 simp only[List.any_eq_true,List.mem_range,id]
 constructor
 ·rintro⟨i,hi,h⟩
  rw[List.getD_eq_getElem?_getD,List.getElem?_eq_getElem hi] at h
  exact⟨_,List.getElem_mem hi,h⟩
 ·rintro⟨b,hb,h⟩
  obtain⟨i,hi,rfl⟩:=List.getElem_of_mem hb
  exact⟨i,hi,by rw[List.getD_eq_getElem?_getD,List.getElem?_eq_getElem hi];exact h⟩
noncomputable def Es:List D→R D
 | [.lst ds]=>(match bls? ds with | some bs=> .ok (.bl (bs.all id)) | none=> .no)
 | _=> .no
noncomputable def AA:List D→R D
 | [.lst ds]=>(match bls? ds with | some bs=> .ok (.bl (bs.any id)) | none=> .no)
 | _=> .no
theorem DT{bs:List Bool}{i:Nat}{v:Value}(h:((bs.map Value.bool).toArray)[i]? =some v):v= .bool (bs.getD i false):=by
 rw[List.getElem?_toArray,List.getElem?_map] at h
 rw[List.getD_eq_getElem?_getD]
 cases e:bs[i]? with
 | none=>rw [e] at h;cases h
 | some b=>rw [e] at h;cases h;rfl
theorem Ic(hc:X.calm=true):cS X (.builtin "all") Es:=by
 intro pins s σ H B ds d xs us I hb rx rs hg
 unfold Es at hg
 split at hg
 ·split at hg
  ·rename_i es bs e
   cases hg
   obtain⟨x,rfl,r⟩:=rs.one
   obtain⟨a,ys,rfl,l,r⟩:=Rep.lst.mp r
   obtain⟨u,rfl,ru⟩:=vals1 rx
   cases ru
   obtain⟨its,n,rv,e1,hz⟩:=I.D0 l
   rw[pB r e] at rv
   obtain rfl:=lO rv
   have hl:s.heap.IsList a (bs.map Value.bool).toArray:=⟨_,e1,rfl,n,rfl⟩
   have hlt:a < s.heap.objs.size:=Heap.lt_size e1
   refine call_all_walk (wpAny_pyIter_list hl ?_)
   refine⟨_,_,_,_,_,_,fun i=>bs.getD i false,rfl,Walks.list (A:=X.A.in1) (I.ok.hd hc) _ a (Nat.ne_of_lt hlt) _,⟨⟨_,Heap.get?_push_size _ rfl,rfl,rfl⟩,hl.push _⟩,?_,fun h' tk hk=>?_⟩
   ·intro i v s Q E hP hQ
    rw[DT hP]
    exact wpAny_truthy_bool hQ
   ·refine⟨.bl (bs.all id),H,I.kept (old_kept hk),?_,aK.refl H,Rep.bl.mpr rfl⟩
    show Value.bool _=Value.bool _
    rw[←range_all]
    simp
  ·cases hg
 ·cases hg
theorem Ee(hc:X.calm=true):cS X (.builtin "any") AA:=by
 intro pins s σ H B ds d xs us I hb rx rs hg
 unfold AA at hg
 split at hg
 ·split at hg
  ·rename_i es bs e
   cases hg
   obtain⟨x,rfl,r⟩:=rs.one
   obtain⟨a,ys,rfl,l,r⟩:=Rep.lst.mp r
   obtain⟨u,rfl,ru⟩:=vals1 rx
   cases ru
   obtain⟨its,n,rv,e1,hz⟩:=I.D0 l
   rw[pB r e] at rv
   obtain rfl:=lO rv
   have hl:s.heap.IsList a (bs.map Value.bool).toArray:=⟨_,e1,rfl,n,rfl⟩
   have hlt:a < s.heap.objs.size:=Heap.lt_size e1
   refine call_any_walk (wpAny_pyIter_list hl ?_)
   refine⟨_,_,_,_,_,_,fun i=>bs.getD i false,rfl,Walks.list (A:=X.A.in1) (I.ok.hd hc) _ a (Nat.ne_of_lt hlt) _,⟨⟨_,Heap.get?_push_size _ rfl,rfl,rfl⟩,hl.push _⟩,?_,fun h' tk hk=>?_⟩
   ·intro i v s Q E hP hQ
    rw[DT hP]
    exact wpAny_truthy_bool hQ
   ·refine⟨.bl (bs.any id),H,I.kept (old_kept hk),?_,aK.refl H,Rep.bl.mpr rfl⟩
    show Value.bool _=Value.bool _
    rw[←range_any]
    simp
  ·cases hg
 ·cases hg
end
end L2
end
section
set_option maxRecDepth 100000
set_option maxHeartbeats 4000000
namespace L2
open PySem PySem.Spec PyProof.Rows
section
variable {X:Cx}
noncomputable def L1:FS:=fun _=> .no
noncomputable def Kg(f:FD):FS:=fun δ=>(f δ).bind fun _=> .ok (.nx δ)
end
end L2
namespace L3
open PySem PySem.Spec PyProof.Rows L2
section
variable {X:Cx} {cl:Nat→Addr}
noncomputable def Ma:FZ:=fun _ _=> .no
noncomputable def J_(f:aq→R (List D)):FX:=fun δ S=>(R3.of (f (cT S δ)) S).bind fun ds S=>R3.bt (tR ds) (.ok (.loc S.length) (S++[.lst ds]))
noncomputable def Ly(i:Nat)(f:FX):FZ:=fun δ S=>match eO δ i with
 | none=> .no
 | some k=>match cq S k with
   | none=> .no
   | some _=>(f δ S).bind fun v S1=>match v with
     | .d (.lst es)=>(match cq S1 k with
       | some ds=>R3.bt (decide (ds.length+es.length≤sizeLine)) (.ok (.nx δ) (S1.set k (.lst (ds++es))))
       | none=> .no)
     | _=> .no
end
end L3
end
section
set_option maxRecDepth 100000
set_option maxHeartbeats 4000000
namespace L2
open PySem PySem.Spec PyProof.Rows
section
variable {X:Cx}
theorem BJ{prog:Program}{w:World}{A:Around}{E:Value→Shared→Prop}{s:Shared}{t b:Addr}{vs ws:List Value}{Q:Value→Shared→Prop}(ht:IsTup s.heap t vs.toArray)(hb:IsTup s.heap b ws.toArray)
 (h0:vs=[]→Q (.ref b) s) (h1:vs≠[]→ws=[]→Q (.ref t) s) (h2:vs≠[]→ws≠[]→Q (.ref s.heap.objs.size) {s with heap:=s.heap.push {cls:= .type "tuple",data:= .seq (vs++ws).toArray}})
 (hsz:vs.length+ws.length≤sizeLine):wpAny (model prog w) A (binaryOp .Add (.ref t) (.ref b)) Q E s:=by
 by_cases hv:vs=[]
 ·obtain⟨⟨cls,dd,data,sl⟩,ho,hc,n,hd⟩:=id ht;obtain⟨⟨cls2,dd2,data2,sl2⟩,ho2,hc2,n2,hd2⟩:=id hb
  simp only at hc hd hc2 hd2;subst hc hd hc2 hd2
  exact concat_meets ⟨_,ho,rfl⟩ ⟨_,ho2,rfl⟩ noFill_tuple_add seq_tuple_add PySem.F.slot_tuple_add PySem.F.entry_tuple_add (PySem.F.args_tuple_add_2 _ _) (tuple_addW0 t b vs.toArray ws.toArray n n2 dd dd2 sl sl2 (by simp [hv])) ⟨ho,ho2,h0 hv⟩
 ·exact HT.B9 ht hb hv (h1 hv) (h2 hv) hsz
noncomputable def fw(d e:D):R D:=match d,e with
 | .tup a, .tup b=>R.bt (decide (a.length+b.length≤sizeLine)) (.ok (.tup (a++b)))
 | d,e=>fZ d e
theorem qO.fresh{K:PySem.W.Frag}{B:List Addr}{H:Hp}{p:Addr}{xs:List V}(hb:∀a∈B,∃o,H a=some o)(hp:H p=none):qO K B (upd H p (.tup xs)) p xs:= .inl ⟨fun ha=>(by obtain⟨o,ho⟩:=hb p ha;rw [hp] at ho;cases ho), .inl aN⟩
theorem il:iT X (binaryOp .Add) fw:=by
 intro pins s σ H B da db d x y v u I hb rx ry ra rb hg
 by_cases ht:∃a b,da= .tup a∧db= .tup b
 ·obtain⟨a,b,rfl,rfl⟩:=ht
  have hg:R.bt (decide (a.length+b.length≤sizeLine)) (.ok (.tup (a++b)))= .ok d:=hg
  obtain⟨h1,h2⟩:=R.aS hg
  cases h2
  have h1:=of_decide_eq_true h1
  have ra':=ra
  have rb':=rb
  obtain⟨a1,xs1,rfl,l1,r1⟩:=Rep.tup.mp ra
  obtain⟨a2,xs2,rfl,l2,r2⟩:=Rep.tup.mp rb
  cases rx
  cases ry
  obtain⟨its,rv1,p1,_⟩:=I.tuple l1.sq
  obtain⟨its2,rv2,p2,_⟩:=I.tuple l2.sq
  have e1:=rv1.length
  have e2:=rv2.length
  have e3:=r1.length
  have e4:=r2.length
  refine BJ p1 p2 (fun z=>⟨.ref a2,H,I,rfl,aK.refl H,?_⟩) (fun _ z=>⟨.ref a1,H,I,rfl,aK.refl H,?_⟩) (fun _ _=>?_) (by omega)
  ·obtain rfl:a=[]:=List.eq_nil_of_length_eq_zero (by rw[e3,e1,z];rfl)
   exact rb'
  ·obtain rfl:b=[]:=List.eq_nil_of_length_eq_zero (by rw[e4,e2,z];rfl)
   rw[List.append_nil];exact ra'
  ·have hp:H s.heap.objs.size=none:=I.hok.fresh (Nat.le_refl _)
   refine⟨.ref s.heap.objs.size,_,I.laid (t':=s.toks) (o:= .tup (xs1++xs2)) (fun b ob q=>Heap.get?_push_of_some _ q) (Nat.le_refl _) ⟨by rw[List.length_append];omega,_,rv1.append rv2,IsTup.new _ _⟩,rfl,aD hp,Rep.tup.mpr ⟨_,_,rfl,qO.fresh hb hp,(r1.append r2).same (aD hp)⟩⟩
 ·have hg:fZ da db= .ok d:=by
   unfold fw at hg
   split at hg
   ·exact absurd ⟨_,_,rfl,rfl⟩ ht
   ·exact hg
  exact iA pins s σ H B da db d x y v u I hb rx ry ra rb hg
theorem wX.or{tg e:Expr}{F F1 F2:aq→R (List D)}(h1:wX X tg e F1)(h2:wX X tg e F2)(h:∀δ ds,F δ= .ok ds→F1 δ= .ok ds∨F2 δ= .ok ds):wX X tg e F:=
 ⟨fun pins s σ H R I ⟨Z,B,δ,ds,E,hf,q⟩=>(h δ ds hf).elim (fun z=>h1.1 pins s σ H R I ⟨Z,B,δ,ds,E,z,q⟩) fun z=>h2.1 pins s σ H R I ⟨Z,B,δ,ds,E,z,q⟩⟩
noncomputable def xu(f:FD):aq→R (List D):=fun δ=>(f δ).bind fun d=>match d with | .lst ds=> .ok (bV ds) | .tup ds=> .ok (bV ds) | _=> .no
theorem vB{elts:List Expr}{k:Nat}{tpos:Pos}{a:Expr}{f:FD}{p pos:Pos}(h:QD X a f)(hg:Gl X "enumerate")(hm:X.mg "enumerate"=none)(hs:starEach [a] X.env=[(false,eval a X.env)]:=by rfl):wX X (.Tuple elts k tpos) (.Call (.Name "enumerate" p) [a] [] pos) (xu f):=
 wX.or (F1:=gP f) (F2:=tF f) ⟨uQ h.1 hg hm hs⟩ (vj h hg hm hs) fun δ ds hf=>by
  obtain⟨d,h1,h2⟩:=R.ab hf
  cases d with
  | lst es=>cases h2;exact .inl (by unfold gP;rw [h1];rfl)
  | tup es=>cases h2;exact .inr (by unfold tF;rw [h1];rfl)
  | _=>cases h2
noncomputable def LK(K:PySem.W.Frag)(a:Addr)(n:Nat):It:=
 ⟨fun i H=>∃xs x,lR K H a xs∧xs.length=n∧i < n∧xs[n - 1 - i]? =some x,fun i H v H'=>H'=H∧∀xs,lR K H a xs→xs[n - 1 - i]? =some v,fun i H=>(∃xs,lR K H a xs)∧i=n⟩
theorem z_{P:Program}{w:World}{K:PySem.W.Frag}{tg:Expr}(a it:Addr)(n:Nat):Turn P w K tg (LK K a n) [it] it (fun i h=>h.IsRevIter it a ((n:Int) - 1 - (i:Int))) where
 mem:=by simp
 obj:=fun i h st b hb=>by
  have e:b=it:=by simpa using hb
  subst e
  obtain⟨o,e,c,d⟩:=st
  exact⟨o,e,fun v z=>by rw[d] at z;cases z⟩
 keep:=fun i h h' st k=>st.at fun o e=>k it (by simp) o e
 item:=by
  intro X hP hw hK hc i pins s σ H E I hf st hg
  subst hP hw hK
  obtain⟨xs,x,hq,hn,hi,hx⟩:=hg
  obtain⟨its,rv,p,hz⟩:=I.list hq
  obtain⟨u,hu,ru⟩:=rv.get hx
  obtain⟨f0,f1,f2,f3,f4,f5⟩:=hf it (by simp)
  have e0:(n:Int) - 1 - (i:Int)=((n - 1 - i:Nat):Int):=by omega
  rw[e0] at st
  refine wpAny_pyNext_rev_item st p.isList (x:=u) (by simpa using hu) fun h' st' sb=>?_
  have I1:Inv X pins σ H {s with heap:=h'}:=I.turned (t':=s.toks) (fun b o hb e=>(sb.2 b hb).trans e) f0 f1 f3 f4 f5
  have st2:h'.IsRevIter it a ((n:Int) - 1 - ((i+1:Nat):Int)):=by
   rw[show((n - 1 - i:Nat):Int) - 1=(n:Int) - 1 - ((i+1:Nat):Int) by omega] at st';exact st'
  obtain⟨o,e,c,d⟩:=id st2
  exact⟨u,rfl,ud (s:={s with heap:=h'}) e c d (by decide) ⟨x,H,I1,ru,⟨rfl,fun ys hy=>by rw[I.mj hy hq];exact hx⟩,st2,fun b hb=>(hf b hb).1⟩⟩
 done:=by
  intro X hP hw hK hc i pins s σ H E I hf st hg
  subst hP hw hK
  obtain⟨_,rfl⟩:=hg
  obtain⟨f0,f1,f2,f3,f4,f5⟩:=hf it (by simp)
  rw[show(i:Int) - 1 - (i:Int)= -1 by omega] at st
  exact wpAny_pyNext_rev_end (I.ok.hd hc) st fun h' eb=>⟨rfl,I.turned (t':=s.toks) (fun b o hb e=>eb b o hb e) f0 f1 f3 f4 f5⟩
 self:=fun _ _ _ _ _ st h=>wpAny_pyIter_revIter st h
noncomputable def Ej(f:FD):aq→R (List D):=fun δ=>(f δ).bind fun d=>match d with | .lst ds=> .ok ds.reverse | _=> .no
theorem AG{tg a:Expr}{f:FD}{p pos:Pos}(h:QD X a f)(hg:Gl X "reversed")(hm:X.mg "reversed"=none)(hs:starEach [a] X.env=[(false,eval a X.env)]:=by rfl):wX X tg (.Call (.Name "reversed" p) [a] [] pos) (Ej f):=by
 refine⟨?_⟩
 intro pins s σ H RR I ⟨Z,B,δ,ds,E,hf,q⟩
 obtain⟨d,h1,h2⟩:=R.ab hf
 have hA:=dz h.1 f7 hs pos pins s σ H (fun vs H1=>aK H H1∧∃v,vs=[v]∧Rep X.K B H1 d v) I ⟨Z,B,δ,d,E,h1,fun v H1 s1 r1=>⟨s1,v,rfl,r1⟩⟩
 refine Call_ (iM I hg hm boot_reversed (PyProof.Rows.callWith_type1 (dw hA fun us s1 ⟨vs,H1,I1,r1,ss,v,ev,rr⟩=>?_) hs rfl))
 subst ev
 obtain⟨u,rfl,ru⟩:=vals1 r1
 cases d with
 | lst es=>
   cases h2
   obtain⟨b,xs,rfl,l,rs⟩:=Rep.lst.mp rr
   cases ru
   obtain⟨its,rv,pl,hz⟩:=I1.list l.sq
   have e1:=rv.length
   have e2:=rs.length
   refine call_reversed_list pl.isList (wpAny_pyIter_revIter (i:=(its.toArray.size:Int) - 1) ⟨_,Heap.get?_push_size _ rfl,rfl,rfl⟩ ?_)
   refine⟨s1.heap.objs.size,[s1.heap.objs.size],_,_,H1,rfl,I1.kept (t':=s1.toks) fun b o e=>Heap.get?_push_of_some _ e,z_ b _ es.length,?_,fun c hc=>?_,q _ H1 ss fun B' H' pr=>?_⟩
   ·refine⟨_,Heap.get?_push_size _ rfl,rfl,?_⟩
    show Data.fields #[.ref b,rawInt ((its.toArray.size:Int) - 1)]=Data.fields #[.ref b,rawInt ((es.length:Int) - 1 - ((0:Nat):Int))]
    rw[List.size_toArray,←e1,←e2,show((es.length:Nat):Int) - 1 - ((0:Nat):Int)=(es.length:Int) - 1 by omega]
   ·have e:c=s1.heap.objs.size:=by simpa using hc
    subst e
    exact I1.n6 (Nat.le_refl _) (I1.hok.fresh (Nat.le_refl _))
   ·have l':ql X.K B' H' b xs:=l.aZ pr
    have rs':=rs.aZ pr
    refine⟨fun i d hd=>?_,⟨xs,l'.sq⟩,by rw[List.length_reverse]⟩
    have hi:i < es.length:=by have:=(List.getElem?_eq_some_iff.mp hd).1;rwa [List.length_reverse] at this
    rw[List.getElem?_reverse hi] at hd
    obtain⟨x,hx,rx⟩:=rs'.get hd
    refine⟨⟨xs,x,l'.sq,e2.symm,hi,hx⟩,fun v H'' yl hB'=>?_⟩
    obtain⟨rfl,hy⟩:=yl
    have hy2:=hy xs l'.sq
    rw[hx] at hy2
    cases hy2
    exact⟨aK.refl _,rx⟩
 | _=>cases h2
noncomputable def tq(K:PySem.W.Frag)(C:Addr)(m qual:Str)(st:Stmt):Prop:=∃f fd,xQ K m qual st f fd∧Meth K C m f
noncomputable def yH(K:PySem.W.Frag)(C:Addr)(m qual:Str)(st:Stmt):Prop:=∃f fd,xQ K m qual st f fd∧Mk K C f
end
end L2
namespace L3
open PySem PySem.Spec PyProof.Rows L2
section
variable {X:Cx} {cl:Nat→Addr}
theorem fW.p{P:Program}{w:World}{K:PySem.W.Frag}{mg:Str→Option Value}{base:Heap}{cl:Nat→Addr}{k c:Nat}{m:Str}{n:Nat}{N:List Str}{F:FZ}(C:fW P w K mg base cl k c m n (l6 N F)):fW P w K mg base cl k c m n (mF N F):=
 let⟨f,fd,ps,c1,c2,F,h⟩:=C;⟨f,fd,ps,c1,c2,F.imp fun _ _ _ _ h=>wM h,h⟩
end
end L3
end
section
set_option maxRecDepth 100000
set_option maxHeartbeats 4000000
namespace L2
open PySem PySem.Spec PyProof.Rows
section
variable {X:Cx}
noncomputable def Lq(f:FD):aq→R (List D):=fun δ=>(f δ).bind fun d=>match d with | .int j=>R.bt (decide (-(2 ^ 62)≤j∧j < 16777216)) (.ok (gp 0 j.toNat)) | _=> .no
noncomputable def LS(f:FD):FD:=fun δ=>(f δ).bind fun d=>match d with | .lst ds=> .ok (.lst ds.reverse) | _=> .no
end
end L2
end
section
set_option maxRecDepth 100000
set_option maxHeartbeats 4000000
namespace L2
open PySem PySem.Spec PyProof.Rows
section
variable {X:Cx}
noncomputable def Lv(K:PySem.W.Frag)(n:Nat)(t:As):TG:=fun v σ H Q=>∃a xs,v= .ref a∧lR K H a xs∧xs.length=n∧t xs σ H Q
end
end L2
namespace L3
open PySem PySem.Spec PyProof.Rows L2
section
variable {X:Cx} {cl:Nat→Addr}
noncomputable def L9(n:Nat)(t:DO):FG:=fun d δ=>match d with
 | .d (.lst ds)=>if ds.length=n then t (ds.map .d) δ else none
 | .lst vs=>if vs.length=n then t vs δ else none
 | _=>none
noncomputable def Ep(f g:FX):FA:=fun δ S=>(aC f (aC g cN) δ S).bind fun vs S1=>match vs with
 | [.d d, .d e]=>(match seqD? d,seqD? e with | some ds,some es=> .ok ((uv ds es).map .d) S1 | _,_=> .no)
 | _=> .no
theorem CC{elts:List Expr}{k:Nat}{tpos:Pos}{a b:Expr}{f g:FX}{p pos:Pos}(h:PX X cl a f)(h':PX X cl b g)(hg:Gl X "zip")(hm:X.mg "zip"=none)(hs:starEach [a,b] X.env=[(false,eval a X.env),(false,eval b X.env)]:=by rfl)(hs2:starEach [b] X.env=[(false,eval b X.env)]:=by rfl) :
 DM X cl (.Tuple elts k tpos) (.Call (.Name "zip" p) [a,b] [] pos) (Ep f g):=by
 refine⟨?_⟩
 intro pins s σ H RR I ⟨ρ,S,δ,vs,S',E,hf,q⟩
 obtain⟨ws,S1,h1,h2⟩:=R3.ab hf
 have hA:=(ak h (ak h' aR hs2) (by rw[hs,hs2])).1 pos pins s σ H (fun us H1=>∃ρ1,Pre ρ H ρ1 H1∧SW X.K cl ρ1 H1 S1∧ax X.K ρ1 H1 ws us) I
  ⟨ρ,S,δ,ws,S1,E,h1,fun us ρ1 H1 p1 w1 r1=>⟨ρ1,p1,w1,r1⟩⟩
 refine Call_ (iM I hg hm boot_zip (PyProof.Rows.callWith_type1 (dw hA fun us s1 ⟨xs,H1,I1,r1,ρ1,p1,w1,rr⟩=>?_) (by rw[hs,hs2]) (by rw[hs2];rfl)))
 rcases hsh:ws with _ | ⟨w0,_ | ⟨w2,_ | ⟨w3,wr⟩⟩⟩ <;> subst hsh
 ·cases h2
 ·cases w0 <;> cases h2
 ·rcases w0 with d | _ | _ | _ <;> rcases w2 with e | _ | _ | _ <;> try (cases h2;done)
  have h2:(match seqD? d,seqD? e with | some ds,some es=>R3.ok ((uv ds es).map V3.d) S1 | _,_=> .no)= .ok vs S':=h2
  cases e1:seqD? d with
  | none=>rw [e1] at h2;cases h2
  | some ls=>
    cases e2:seqD? e with
    | none=>rw [e1,e2] at h2;cases h2
    | some ms=>
      rw[e1,e2] at h2
      cases h2
      obtain⟨v,ys,ev,ra,rr⟩:=rr.bA
      obtain⟨v',zs,ev',rb,rr⟩:=rr.bA
      unfold ax at rr
      subst rr ev' ev
      obtain⟨u,u',rfl,ru,ru'⟩:=vals2 r1
      unfold aL at ra rb
      obtain⟨t,a,xs,rfl,k1⟩:=ra.Ct e1
      obtain⟨w,b,ys,rfl,k2⟩:=rb.Ct e2
      cases ru
      cases ru'
      obtain⟨its,rv,pp⟩:=I1.Ct (k1 ρ1.b H1 (c_.refl _ H1)).1
      obtain⟨jts,rw',pp'⟩:=I1.Ct (k2 ρ1.b H1 (c_.refl _ H1)).1
      have la:=pp.lt
      have lb:=pp'.lt
      refine yO pp pp' fun h₂ hz hTI hTO hi1 hi2 kk=>wpAny_pyIter_zip hz ?_
      have I2:Inv X pins σ H1 {s1 with heap:=h₂}:=I1.kept (t':=s1.toks) kk
      refine⟨s1.heap.objs.size+4,[s1.heap.objs.size+4,s1.heap.objs.size+2,s1.heap.objs.size+3,s1.heap.objs.size,s1.heap.objs.size+1],_,_,H1,rfl,I2,Bh (t:=t) (u:=w) (zipApart_new la lb),⟨hz,hTI,⟨_,_,hTO⟩,hi1,hi2⟩,fun c hc=>?_,q _ ρ1 H1 p1 w1 (E7.of fun B' H' pr=>?_)⟩
      ·have hle:s1.heap.objs.size≤c:=by
        simp only[List.mem_cons,List.not_mem_nil,or_false] at hc
        rcases hc with rfl | rfl | rfl | rfl | rfl <;> omega
       exact I1.n6 hle (I1.hok.fresh hle)
      ·obtain⟨l1,rs1⟩:=k1 B' H' pr
       obtain⟨l2,rs2⟩:=k2 B' H' pr
       refine⟨fun i d hd=>?_,⟨xs,ys,l1,l2,?_⟩⟩
       ·unfold uv at hd
        rw[List.getElem?_map] at hd
        cases ez:(ls.zip ms)[i]? with
        | none=>rw [ez] at hd;cases hd
        | some pr'=>
          rw[ez] at hd
          have hd:D.tup [pr'.1,pr'.2]=d:=Option.some.inj hd
          obtain⟨ea,eb⟩:=List.getElem?_zip_eq_some.mp ez
          obtain⟨x,hx,rx⟩:=rs1.get ea
          obtain⟨y,hy,ry⟩:=rs2.get eb
          refine⟨⟨xs,ys,x,y,l1,l2,hx,hy⟩,fun v H'' yl hB'=>?_⟩
          obtain⟨p,x2,y2,hp,rfl,hx2,hy2,rfl⟩:=yl
          refine⟨aD hp,?_⟩
          subst hd
          have hx2:=hx2 xs l1
          have hy2:=hy2 ys l2
          rw[hx] at hx2;cases hx2
          rw[hy] at hy2;cases hy2
          refine Rep.tup.mpr ⟨p,_,rfl, .inl ⟨fun ha=>?_, .inl aN⟩,ay.cons (rx.same (aD hp)) (ay.cons (ry.same (aD hp)) ay.nil)⟩
          obtain⟨o,ho⟩:=hB' p ha
          rw[hp] at ho;cases ho
       ·rw[←rs1.length,←rs2.length]
        unfold uv
        rw[List.length_map,List.length_zip]
        omega
 ·cases w0 <;> cases w2 <;> cases h2
theorem Ht{f g:FX}{δ:DE}{S:aF}{Q:List V3→aF→Prop}(h:W3 (f δ S) fun v S1=>W3 (g δ S1) fun w S2=>∃d e ds es,v= .d d∧w= .d e∧seqD? d=some ds∧seqD? e=some es∧Q ((uv ds es).map .d) S2):W3 (Ep f g δ S) Q:=
 W3.bind (W3.bind (h.mono fun v S1 h2=>W3.bind (W3.bind (h2.mono fun w S2 ⟨d,e,ds,es,e1,e2',e3,e4,q⟩=>by
  subst e1 e2'
  exact W3.bind (W3.ok (W3.ok (W3.ok (by simp only[e3,e4];exact W3.ok q))))))))
noncomputable def lT(S:aF):Prop:=∀o∈S,ll S.length o=true
theorem Flat.LV{S:aF}(h:Flat S):lT S:=fun o ho=>h o ho _
theorem D8{N:List Str}{F:FZ}{vs:List V3}{S:aF}{QV:V3→aF→Prop}(h:W3 (l6 N F vs S) fun v S1=>(∀o∈S1.take S.length,ll S.length o=true)∧eQ S.length v=true∧∃d,res S1 v=some d∧QV (.d d) (S1.take S.length)):W3 (mF N F vs S) QV:=
 W3.bind (h.mono fun v S1 ⟨hl,hg,d,e,q⟩=>by
  rw[e]
  exact W3.wh (by rw[List.all_eq_true.mpr hl,hg];rfl) (W3.ok q))
theorem kZ{N:List Str}{F:FZ}{vs:List V3}{S:aF}{QV:V3→aF→Prop}(hS:lT S)(h:W3 (l6 N F vs S) fun v S1=>eQ S.length v=true∧(∃T,S1=S++T)∧∃d,res S1 v=some d∧QV (.d d) S):W3 (mF N F vs S) QV:=
 D8 (h.mono fun v S1 ⟨hg,⟨T,e1⟩,d,e,q⟩=>by
  subst e1
  rw[List.take_append_of_le_length (Nat.le_refl _),List.take_length]
  exact⟨hS,hg,d,e,q⟩)
end
end L3
end
section
set_option maxRecDepth 100000
set_option maxHeartbeats 4000000
namespace L2
open PySem PySem.Spec PyProof.Rows
section
variable {X:Cx}
noncomputable def ois?:List D→Option (List (Option Int))
 | []=>some []
 | .int i ::ds=>(ois? ds).map (some i ::·)
 | .bX ::ds=>(ois? ds).map (none ::·)
 | _ ::_=>none
noncomputable def Mb:Option Int→V | some i=> .int i | none=> .bX
noncomputable def Ln(d e:D):R Bool:=match d,e with
 | .bX, .lst ds=>(match ois? ds with | some ss=> .ok (ss.any (·.isNone)) | none=> .no)
 | _,_=> .no
noncomputable def K2(d e:D):R D:=(Ln d e).bind fun b=> .ok (.bl b)
end
end L2
end
section
set_option maxRecDepth 100000
set_option maxHeartbeats 4000000
namespace L2
open PySem PySem.Spec PyProof.Rows
section
variable {X:Cx}
noncomputable def IM(d:D)(ds:List D):R D:=match d,ds with
 | .lst es,[.int k]=>(match ints? es with | some ss=> .ok (.int (ss.count k:Nat)) | none=> .no)
 | _,_=> .no
end
end L2
end
section
set_option maxRecDepth 100000
set_option maxHeartbeats 4000000
namespace L2
open PySem PySem.Spec PyProof.Rows
section
variable {X:Cx}
noncomputable abbrev CZ:D→D→R D:=tJ (fun i j=>decide (0≤j∧j < 1000∧ -1000 < i∧i < 1000)) fun i j=>i*2 ^ j.toNat
theorem Hk:iT X (binaryOp .LShift) CZ:=xE Fh fun i j h=>by
 have:=of_decide_eq_true h
 exact⟨this.1,by omega,by omega⟩
noncomputable def Kh(d e:D):R D:=match d,e with | .bl a, .bl b=> .ok (.bl (a !=b)) | _,_=> .no
end
end L2
namespace L3
open PySem PySem.Spec PyProof.Rows L2
section
variable {X:Cx} {cl:Nat→Addr}
noncomputable def Ky(fo f:FX):FZ:=fun δ S=>(fo δ S).bind fun o S0=>match o with
 | .loc k=>(match cq S0 k with
   | none=> .no
   | some _=>(f δ S0).bind fun v S1=>match v with
     | .d d=>(match cq S1 k with | some ds=>R3.bt (decide (ds.length < sizeLine)) (.ok (.nx δ) (S1.set k (.lst (ds++[d])))) | none=> .no)
     | _=> .no)
 | _=> .no
noncomputable def zN(f:FX):FA:=fun δ S=>(aC f cN δ S).bind fun vs S1=>match vs with
 | [.d (.lst ds)]=> .ok ((bV ds).map .d) S1
 | _=> .no
theorem Bq{elts:List Expr}{k:Nat}{tpos:Pos}{a:Expr}{f:FX}{p pos:Pos}(h:PX X cl a f)(hg:Gl X "enumerate")(hm:X.mg "enumerate"=none)(hs:starEach [a] X.env=[(false,eval a X.env)]:=by rfl) :
 DM X cl (.Tuple elts k tpos) (.Call (.Name "enumerate" p) [a] [] pos) (zN f):=by
 refine⟨?_⟩
 intro pins s σ H RR I ⟨ρ,S,δ,vs,S',E,hf,q⟩
 obtain⟨ws,S1,h1,h2⟩:=R3.ab hf
 have hA:=(ak h aR hs).1 pos pins s σ H (fun us H1=>∃ρ1,Pre ρ H ρ1 H1∧SW X.K cl ρ1 H1 S1∧ax X.K ρ1 H1 ws us) I
  ⟨ρ,S,δ,ws,S1,E,h1,fun us ρ1 H1 p1 w1 r1=>⟨ρ1,p1,w1,r1⟩⟩
 refine Call_ (iM I hg hm boot_enumerate (PyProof.Rows.callWith_type1 (dw hA fun us s1 ⟨xs,H1,I1,r1,ρ1,p1,w1,rr⟩=>?_) hs rfl))
 split at h2
 ·rename_i es _
  cases h2
  obtain⟨v,ys,ev,ra,rr⟩:=rr.bA
  unfold ax at rr
  subst rr ev
  obtain⟨u,rfl,ru⟩:=vals1 r1
  unfold aL at ra
  obtain⟨b,xs,rfl,l,rs⟩:=Rep.lst.mp ra
  cases ru
  obtain⟨its,n,rv,e1,hz⟩:=I1.D0 l
  refine call_enumerate_list (items:=its.toArray) ⟨_,e1,rfl,n,rfl⟩ fun h' he hit hsz kk=>wpAny_pyIter_enum he ?_
  have I2:Inv X pins σ H1 {s1 with heap:=h'}:=I1.kept (t':=s1.toks) kk
  refine⟨s1.heap.objs.size+1,[s1.heap.objs.size+1,s1.heap.objs.size],_,_,H1,rfl,I2,rk b (s1.heap.objs.size+1) s1.heap.objs.size (Nat.succ_ne_self _),⟨⟨_,he⟩,hit⟩,fun c hc=>?_,q _ ρ1 H1 p1 w1 (E7.of fun B' H' pr=>?_)⟩
  ·have hle:s1.heap.objs.size≤c:=by
    rcases List.mem_cons.mp hc with z | hc
    ·rw[z];exact Nat.le_succ _
    ·have z:c=s1.heap.objs.size:=by simpa using hc
     rw[z];exact Nat.le_refl _
   exact I1.n6 hle (I1.hok.fresh hle)
  ·have l':ql X.K B' H' b xs:=l.aZ pr
   have rs':=rs.aZ pr
   refine⟨fun i d hd=>?_,⟨xs,l'.sq,by rw[←rs.length];unfold bV;simp⟩⟩
   unfold bV at hd
   rw[List.getElem?_map,List.getElem?_zipIdx] at hd
   cases e:es[i]? with
   | none=>rw [e] at hd;cases hd
   | some d0=>
     rw[e] at hd
     have hd:D.tup [.int ((0+i:Nat):Int),d0]=d:=Option.some.inj hd
     rw[Nat.zero_add] at hd
     obtain⟨x,hx,rx⟩:=rs'.get e
     refine⟨⟨xs,x,l'.sq,hx⟩,fun v H'' y hB'=>?_⟩
     obtain⟨p,y,hp,rfl,hy,rfl⟩:=y
     refine⟨aD hp,?_⟩
     subst hd
     have hy2:=hy xs l'.sq
     rw[hx] at hy2
     cases hy2
     refine Rep.tup.mpr ⟨p,_,rfl, .inl ⟨fun ha=>?_, .inl aN⟩,ay.cons (Rep.int.mpr rfl) (ay.cons (rx.same (aD hp)) ay.nil)⟩
     obtain⟨o,ho⟩:=hB' p ha
     rw[hp] at ho;cases ho
 ·cases h2
theorem EI{f:FX}{δ:DE}{S:aF}{Q:List V3→aF→Prop}(h:W3 (f δ S) fun v S1=>∃ds,v= .d (.lst ds)∧Q ((bV ds).map .d) S1):W3 (zN f δ S) Q:=
 W3.bind (W3.bind (h.mono fun v S1 ⟨ds,e1,q⟩=>by
  subst e1
  exact W3.bind (W3.ok (W3.ok (W3.ok q)))))
end
end L3
end
section
set_option maxRecDepth 100000
set_option maxHeartbeats 4000000
namespace L2
open PySem PySem.Spec PyProof.Rows
section
variable {X:Cx}
end
end L2
end
section
set_option maxRecDepth 100000
set_option maxHeartbeats 4000000
namespace L3
open PySem PySem.Spec PyProof.Rows L2
section
variable {cl:Nat→Addr}
noncomputable def Jx(it:FA)(t:FG)(c:FB)(f:FX)(own:List Str)(kp:List Nat):FX:=fun δ S=>(it δ S).bind fun vs S1=>R3.bt (decide (vs.length≤sizeLine)) ((j3 t c f (fY own kp δ) vs S1).bind fun ys S2=>match jm ys with | some ds=> .ok (.loc S2.length) (S2++[.lst ds]) | none=> .no)
end
section
variable {X:Cx} {cl:Nat→Addr}
end
end L3
end
section
set_option maxRecDepth 100000
set_option maxHeartbeats 4000000
namespace L3
open PySem PySem.Spec PyProof.Rows L2
section
variable {X:Cx} {cl:Nat→Addr}
noncomputable def JV(g:List D→R D)(fs:FA):FX:=fun δ S=>(fs δ S).bind fun vs S1=>match k9 S1 vs with
 | some ds=>(R3.of (g ds) S1).bind fun d S=>R3.bt (uF d) (.ok (.d d) S)
 | none=> .no
end
end L3
end
section
set_option maxRecDepth 100000
set_option maxHeartbeats 4000000
namespace L2
open PySem PySem.Spec PyProof.Rows
section
variable {X:Cx}
noncomputable def Lw(f:FD):FD:=fun δ=>(f δ).bind fun d=>match d with | .int i=> .ok (.int (-i - 1)) | _=> .no
noncomputable def LA(d:D)(lo hi:Option Int):R D:=match d with
 | .tup ds=>R.bt (decide (¬(HT.oh ds.length 0 lo=0∧HT.oh ds.length ds.length hi=ds.length))) (.ok (.tup (cutD ds lo hi)))
 | _=> .no
noncomputable def Lg(f:FD)(fl fh:FO):FD:=fun δ=>(f δ).bind fun d=>(fl δ).bind fun lo=>(fh δ).bind fun hi=>LA d lo hi
end
end L2
namespace L3
open PySem PySem.Spec PyProof.Rows L2
section
variable {X:Cx} {cl:Nat→Addr}
structure Iq (X:Cx) (cl:Nat→Addr) (st:List Stmt) (F:FZ):Prop where
 go:r9 X st (fun D σ H=>D.ct=D.nx∧sX X.K cl F D σ H)
theorem Gq{st:List Stmt}{F:FZ}(h:y7 X cl st F):Iq X cl st F:=⟨h.1.imp fun D σ H z=>z.2⟩
theorem BO{c:Expr}{rest:List Stmt}{fc:FB}{G:FZ}{pos pos2:Pos}(hc:Bb X cl c fc)(h2:Iq X cl rest G):Iq X cl (.If c [.Continue pos2] [] pos ::rest) (wm fc mh G):=
 ⟨(o9 (Ac hc.1 (sH ub) sr) h2.1).imp fun D σ H ⟨ec,ρ,S,δ,o,S',E,hf,q⟩=>by
   obtain⟨k,S1,h1,h2⟩:=R3.ab hf
   refine⟨ρ,S,δ,k,S1,E,h1,fun ρ1 H1 p1 w1=>?_⟩
   cases k with
   | true=>
     rw[if_pos rfl] at h2
     cases h2
     refine y4 ?_
     show D.ct σ H1
     rw[ec]
     exact q σ ρ1 H1 p1 (E.to p1 w1)
   | false=>rw [if_neg (by decide)] at h2;exact zc ⟨ec,ρ1,S1,δ,o,S',E.to p1 w1,h2,q.pre p1⟩⟩
theorem Dq{tg iter:Expr}{body:List Stmt}{it:FA}{t:FG}{F:FZ}{pos:Pos}(hp:PassesOwn (model X.prog X.w) X.A X.env X.xe)(hc:X.calm=true)(hi:DM X cl tg iter it)(hg:DX X cl tg t)(hb:Iq X cl body F)
 (hs:∀x,foldedSetIterable iter X.env x=pure x:=by intro _;rfl):PZ X cl (.For tg iter body [] pos) (iq it t F):=⟨(vS hp hc hi.1 hg.1 hb.1 hs).imp fun D σ H ⟨ρ,S,δ,o,S',E,hf,q⟩=>by
 obtain⟨ds,S0,h1,h2⟩:=R3.ab hf
 refine⟨ρ,S,δ,ds,S0,E,h1,fun J ρ1 H1 p1 w1 ir=>?_⟩
 refine⟨fun i m σ' H'=>m=ds.length - i∧i≤ds.length∧∃ρ' S1 δ',Pre ρ1 H1 ρ' H'∧dW X.K cl ρ' H' S1 σ' δ'∧iB t F (ds.drop i) δ' S1= .ok o S',⟨ds.length,rfl,Nat.zero_le _,ρ1,S0,δ,Pre.refl ρ1 H1,E.to p1 w1,by simpa using h2⟩,?_⟩
 rintro i m σ' H' ⟨rfl,hi,ρ',S1,δ',pv,E',hl⟩
 obtain⟨go,stop⟩:=ir ρ' H' pv.pw E'.sw.bs
 by_cases hlt:i < ds.length
 ·have hd:ds[i]? =some ds[i]:=List.getElem?_eq_getElem hlt
  have hdrop:ds.drop i=ds[i] ::ds.drop (i+1):=List.drop_eq_getElem_cons hlt
  rw[hdrop] at hl
  unfold iB at hl
  split at hl
  ·cases hl
  ·rename_i δ1 h3
   obtain⟨o1,S2,h5,h6⟩:=R3.ab hl
   obtain⟨g1,g2⟩:=go i _ hd
   refine .inr ⟨g1,fun σ2 H2=>∃ρ2 S2 δ2,Pre ρ1 H1 ρ2 H2∧dW X.K cl ρ2 H2 S2 σ2 δ2∧iB t F (ds.drop (i+1)) δ2 S2= .ok o S',fun σ2 H2 n=>⟨ds.length - (i+1),by omega,rfl,hlt,n⟩,fun x H'' y=>?_⟩
   obtain⟨ss,rr⟩:=g2 x H'' y
   refine⟨ρ',S1,δ',ds[i],δ1,E'.same ss,rr,h3,fun σ2 H2 s2 E2=>⟨rfl,ρ',S1,δ1,o1,S2,E2,h5,?_⟩⟩
   have pv2:Pre ρ1 H1 ρ' H2:=pv.trans (Pre.same (ss.trans s2))
   cases o1 with
   | nx δ2=>exact fun σ3 ρ3 H3 p3 E3=>⟨ρ3,S2,δ2,pv2.trans p3,E3,h6⟩
   | rt d=>
     cases h6
     exact fun v ρ3 H3 p3 w r=>q v ρ3 H3 (p1.trans (pv2.trans p3)) w r
 ·have e:i=ds.length:=by omega
  subst e
  rw[List.drop_length] at hl
  cases hl
  exact .inl ⟨stop,q σ' ρ' H' (p1.trans pv) E'⟩⟩
end
end L3
end
section
set_option maxRecDepth 100000
set_option maxHeartbeats 4000000
namespace L2
open PySem PySem.Spec PyProof.Rows
end L2
namespace L3
open PySem PySem.Spec PyProof.Rows L2
section
variable {X:Cx} {cl:Nat→Addr}
noncomputable def K0(i:Nat)(f:FX):FX:=fun δ S=>match eO δ i with
 | none=> .no
 | some k=>match cq S k with
   | none=> .no
   | some _=>(f δ S).bind fun v S1=>match v with
     | .d (.int j)=>(match cq S1 k with
       | some ds=>(match qj ds.length j with
         | some p=>(match ds[p]? with | some d=>R3.bt (decide (-(2 ^ 63)≤j∧j < 2 ^ 63)) (.ok (.d d) (S1.set k (.lst (ds.eraseIdx p)))) | none=> .no)
         | none=> .no)
       | none=> .no)
     | _=> .no
end
end L3
end
section
set_option maxRecDepth 100000
set_option maxHeartbeats 4000000
namespace L3
open PySem PySem.Spec PyProof.Rows L2
section
variable {X:Cx} {cl:Nat→Addr}
theorem ax.drop{K:PySem.W.Frag}{ρ:P3}{H:Hp}:∀{ds:List V3} {xs:List V} (n:Nat),ax K ρ H ds xs→ax K ρ H (ds.drop n) (xs.drop n)
 | ds,xs,0,r=>by rw[List.drop_zero,List.drop_zero];exact r
 | [],xs,n+1,r=>by unfold ax at r;subst r;exact ax.nil
 | d ::ds,xs,n+1,r=>by
   obtain⟨x,r',rfl,_,h2⟩:=r.bA
   exact h2.drop n
theorem ax.take{K:PySem.W.Frag}{ρ:P3}{H:Hp}:∀{ds:List V3} {xs:List V} (n:Nat),ax K ρ H ds xs→ax K ρ H (ds.take n) (xs.take n)
 | ds,xs,0,r=>by rw[List.take_zero,List.take_zero];exact ax.nil
 | [],xs,n+1,r=>by unfold ax at r;subst r;exact ax.nil
 | d ::ds,xs,n+1,r=>by
   obtain⟨x,r',rfl,h1,h2⟩:=r.bA
   exact ax.cons h1 (h2.take n)
noncomputable def Fq(f:FX)(fl fh:B0):FX:=fun δ S=>(f δ S).bind fun v S1=>(fl δ S1).bind fun lo S2=>(fh δ S2).bind fun hi S3=>match v with
 | .lst vs=> .ok (.lst (L2.cutD vs lo hi)) S3
 | _=> .no
theorem FL{e:Expr}{lo hi:Option Expr}{f:FX}{fl fh:B0}{p2 pos:Pos}(he:PX X cl e f)(hl:GI X cl lo fl)(hh:GI X cl hi fh):PX X cl (.Subscript e (.Slice lo hi none p2) pos) (Fq f fl fh):=by
 refine⟨(oS (wd.or sM) he.1 hl.1 hh.1).imp fun σ H Q ⟨ρ,S,δ,v,S',E,hf,q⟩=>?_⟩
 obtain⟨v1,S1,h1,h2⟩:=R3.ab hf
 obtain⟨l,S2,h3,h4⟩:=R3.ab h2
 obtain⟨h,S3,h5,h6⟩:=R3.ab h4
 refine⟨ρ,S,δ,v1,S1,E,h1,fun u1 ρ1 H1 p1 w1 r1=>⟨ρ1,S1,δ,l,S2,E.to p1 w1,h3,fun ρ2 H2 p2 w2=>⟨ρ2,S2,δ,h,S3,(E.to p1 w1).to p2 w2,h5,fun ρ3 H3 p3 w3=>?_⟩⟩⟩
 have pA:Pre ρ H ρ3 H3:=p1.trans (p2.trans p3)
 have r1':=r1.pre (p2.trans p3)
 split at h6
 ·rename_i vs
  cases h6
  unfold aL at r1'
  obtain⟨a,xs,rfl,ls,rs⟩:=r1'
  refine .inr ⟨a,xs,rfl,ls.sq,fun p hp=>q _ ρ3 _ (pA.trans (iF hp)) (w3.same (aD hp)) ?_⟩
  unfold aL
  refine⟨p,_,rfl, .lG aN fun ha=>?_,?_⟩
  ·obtain⟨o,ho⟩:=w3.bs p ha
   rw[hp] at ho;cases ho
  ·unfold L2.cutD
   rw[rs.length]
   exact((rs.drop _).take _).pre (iF hp)
 ·cases h6
theorem Hm{f:FX}{fl fh:B0}{δ:DE}{S:aF}{QV:V3→aF→Prop}(h:W3 (f δ S) fun v S1=>W3 (fl δ S1) fun lo S2=>W3 (fh δ S2) fun hi S3=>∃vs,v= .lst vs∧QV (.lst (L2.cutD vs lo hi)) S3):W3 (Fq f fl fh δ S) QV:=
 W3.bind (h.mono fun _ _ h=>W3.bind (h.mono fun _ _ h=>W3.bind (h.mono fun _ _ ⟨vs,e,q⟩=>by subst e;exact W3.ok q)))
end
end L3
end
section
set_option maxRecDepth 100000
set_option maxHeartbeats 4000000
namespace L2
open PySem PySem.Spec PyProof.Rows
section
variable {X:Cx}
theorem CM{P:Program}{w:World}{n:Int}{v:Value}(h:(dc P w).is (.inl n) v=true):∃t,v= .int n t:=by
 have h:pR (.inl n) v=true:=h
 rcases cA h with⟨i,t,e1,e2⟩ | ⟨x,t,e1,_⟩
 ·cases e1;exact⟨t,e2⟩
 ·cases e1
theorem uV:∀{ns:List Int} {us:List Value},us.length=ns.length→(∀(j:Nat) (v:Value) (n:Int),us[j]? =some v→ns[j]? =some n→∃t,v=Value.int n t)→Vals (ns.map V.int) us
 | [],[],_,_=> .nil
 | [],_ ::_,h,_=>by simp at h
 | _ ::_,[],h,_=>by simp at h
 | n ::ns,u ::us,h,hv=> .cons (hv 0 u n rfl rfl) (uV (by simpa using h) fun j v m h1 h2=>hv (j+1) v m h1 h2)
theorem Br{κ:Type}:∀{kvs:List (κ × V)} {vs:List (κ × Value)},KV kvs vs→vs.map (·.1)=kvs.map (·.1)
 | [],_, .nil=>rfl
 | _ ::_,_, .cons h t=>by rw[List.map_cons,List.map_cons,Br t,h.1]
theorem gather{P:Program}{w:World}{B:Around}{E:Value→Shared→Prop}{z:Shared}{ty:String}{src own:Addr}{len:Nat}{it:Nat→Value→Prop}{ok:Heap→Prop}{Y:List Value→Shared→Prop}(G:PySem.W.KdlSrc P w ty src own len it ok)(nh:B.handled=none)(o0:ok z.heap)(few:len≤sizeLine)
 (fin:∀(g:Heap) (tk:Nat) (xs:Array Value),z.heap.objs.size < g.objs.size→(∀b o,z.heap.get? b=some o→g.get? b=some o)→ItemsOf it xs len→Y xs.toList {z with heap:=g,toks:=tk}):wpAny (model P w) B (collect (.ref src)) Y E z:=by
 obtain⟨l1,l2⟩:=G.there _ o0
 let z1:Shared:={z with heap:=z.heap.push {cls:= .type "list",data:= .seq ([]:List Value).toArray}}
 let Fn:Result→Shared→Prop:=fun q y=>∃g tk xs c,q= .ok (.ret (.ref z.heap.objs.size))∧y={z with heap:=g,toks:=tk}∧(∀b o,z.heap.get? b=some o→g.get? b=some o)∧g.get? z.heap.objs.size=some {cls:= .type "list",dict:=none,data:= .seq xs c,slots:=#[]}∧ItemsOf it xs len
 have mid:wpAny (model P w) B.in1 (Builtin.List.listExtendWith (.ref z.heap.objs.size) (.ref src) (.ref z.heap.objs.size)) (fun q y=>match q with | .done f=>Fn (.ok f) y | .again c=>c.quiet=true∧codeAny (model P w) B c Fn y) (fun e y=>Fn (.error e) y) z1:=
  PySem.W.kdl_extend (s:=z1) (R:=Fn) G nh (G.keep _ _ o0 fun b _ o e=>Heap.get?_push_of_some _ e) _ (Nat.ne_of_gt l1) (Nat.ne_of_gt l2) _ 0 (Heap.get?_push_size _ rfl)
   (fun g tk xs c hk hg hi=>⟨g,tk,xs,c,rfl,rfl,fun b o e=>hk b o (Nat.ne_of_lt (Heap.lt_size e)) (Heap.get?_push_of_some _ e),hg,hi⟩) few
 have out:∀q y,Fn q y→q= .ok (.ret (.ref z.heap.objs.size))∧∃g tk xs c,y={z with heap:=g,toks:=tk}∧g.get? z.heap.objs.size=some {cls:= .type "list",dict:=none,data:= .seq xs c,slots:=#[]}∧Y xs.toList {z with heap:=g,toks:=tk}:=fun q y ⟨g,tk,xs,c,e1,e2,hk,hg,hi⟩=>⟨e1,g,tk,xs,c,e2,hg,fin g tk xs (Heap.lt_size hg) hk hi⟩
 unfold collect
 refine wpAny_bind (wpAny_runValue (codeAny_builtin entry_proto_collect' ?_))
 rw[Around.under_plainId PySem.F.plain_proto_collect _]
 refine wpAny_bind (m:=newList []) (wpAny_newObj_type (wpAny_pure ⟨plainId_quiet PySem.F.plain_list_iadd _,codeAny_builtin entry_list_iadd' ?_⟩))
 rw[Around.under_plainId PySem.F.plain_list_iadd _]
 refine wpAny_mono mid (fun q y hq=>?_) fun e y he=>?_
 ·cases q with
  | done f=>
    obtain⟨e1,g,tk,xs,c,rfl,hg,hy⟩:=out _ _ hq
    cases e1
    exact wpAny_bind (wpAny_load hg (wpAny_pure hy))
  | again c=>
    refine⟨hq.1,codeAny_mono hq.2 fun q y hq=>?_⟩
    obtain⟨rfl,g,tk,xs,c,rfl,hg,hy⟩:=out _ _ hq
    exact wpAny_bind (wpAny_load hg (wpAny_pure hy))
 ·obtain⟨e1,_⟩:=out _ _ he
  cases e1
noncomputable def E9:List V→Hp→VK→Prop:=fun xs H Q=>∃a kvs ns,xs=[V.ref a]∧H a=some (.dK kvs)∧kvs.map (·.1)=ns.map Sum.inl∧ns.length < 64∧∀p,H p=none→Q (.ref p) (upd H p (.lst ((nG ns).map V.int)))
theorem wg(hc:X.calm=true):jH X (.builtin "sorted") E9:=by
 intro pins s σ H xs us Q I r h
 obtain⟨a,kvs,ns,rfl,e,hk,h64,q⟩:=h
 obtain⟨u,rfl,ru⟩:=vals1 r
 cases ru
 obtain⟨hz,lo,vs,rel,dd⟩:=D4 I.hok e
 obtain⟨ep,hat⟩:=dd.dictAt
 have hfs:=Br rel
 rw[hk] at hfs
 have hvl:vs.length=ns.length:=by
  have h2:=congrArg List.length hfs
  rw[List.length_map,List.length_map] at h2
  exact h2
 have hzz:sizeLine=16777216:=sizeLine_eq
 refine Calls.call_function_entry kind_sorted plain_sorted entry_sorted (args_sorted1 _) ?_
 unfold Builtin.«sorted»
 refine wpAny_bind (m:=checkCount "sorted" 1 1 _) (wpAny_pure ?_)
 refine wpAny_bind (gather (PySem.W.kdl_dict (knd:=dc X.prog X.w) (kvs:=vs) (ep:=ep) lo) (I.ok.hd hc) hat (by omega) fun h' tk acc hgr hkp hacc=>?_)
 have hal:acc.toList.length=ns.length:=by rw[Array.length_toList];exact hacc.1.trans hvl
 have hI:IntsAre acc.toList ns:=by
  refine uR (uV hal fun j v n h1 h2=>?_)
  obtain⟨k,x,h3,h4⟩:=hacc.2 j v (by rw[←Array.getElem?_toList];exact h1)
  have h5:(vs.map (·.1))[j]? =some k:=by rw[List.getElem?_map,h3];rfl
  rw[hfs,List.getElem?_map,h2] at h5
  have h6:(Sum.inl n:Key)=k:=Option.some.inj h5
  rw[←h6] at h4
  exact CM h4
 refine wpAny_bind (wpAny_newList ?_ (by rw[hal];omega))
 have hoL:(h'.push (seqObj "list" acc.toList.toArray 0)).get? h'.objs.size=some (seqObj "list" acc.toList.toArray 0):=Heap.get?_push_size _ rfl
 show wpAny _ _ _ _ _ {s with heap:=h'.push (seqObj "list" acc.toList.toArray 0),toks:=tk}
 refine wpAny_bind (wpAny_holding (wpAny_call_entry slot_list_sort ⟨_,hoL,rfl⟩ entry_list_sort (list_sort_tree hoL hI (by omega) fun out ns' a1 a2 a3=>⟨_,rfl,?_⟩) (args_list_sort _)))
 refine wpAny_pure ⟨_,rfl,?_⟩
 have hs:=ua a2 a3
 subst hs
 have rv2:=Bj a1
 have hle:((nG ns).map V.int).length≤sizeLine:=by
  have h1:=a2.length_eq
  rw[List.length_map];omega
 obtain⟨ep',he'⟩:=sortedHeap_at (out:=out) hoL
 have hbig:s.heap.objs.size≤h'.objs.size:=Nat.le_of_lt hgr
 have hn:H h'.objs.size=none:=I.hok.fresh hbig
 have I2:=I.laid (a:=h'.objs.size) (o:= .lst ((nG ns).map V.int)) (h':=sortedHeap (h'.push (seqObj "list" acc.toList.toArray 0)) h'.objs.size acc.toList out) (t':=tk) (fun b o hb=>by
  have hlt:=Heap.lt_size (hkp b o hb)
  rw[sortedHeap_old (Nat.ne_of_lt hlt) (by rw[size_push'];exact Nat.lt_succ_of_lt hlt)]
  exact Heap.get?_push_of_some _ (hkp b o hb)) hbig (show c9 X.prog X.w _ _ _ (.lst _) from⟨hle,out.toList,ep',rv2,by simpa [seqObj] using he'⟩)
 exact⟨.ref h'.objs.size,_,I2,rfl,q _ hn⟩
end
end L2
end
section
set_option maxRecDepth 100000
set_option maxHeartbeats 4000000
namespace L3
open PySem PySem.Spec PyProof.Rows L2
section
variable {X:Cx} {cl:Nat→Addr}
noncomputable def sj(kvs:List (Key × D))(k:Key)(d:D):List (Key × D):=if(kvs.any fun kv=>decide (kv.1=k))=true then kvs.map (fun kv=>if kv.1=k then(kv.1,d) else kv) else kvs++[(k,d)]
noncomputable def jI(S:aF)(k:Nat):Option (List (Key × D)):=match S[k]? with | some (.dct kvs)=>some kvs | _=>none
theorem jD{S:aF}{k:Nat}{kvs:List (Key × D)}(h:jI S k=some kvs):S[k]? =some (.dct kvs):=by
 unfold jI at h
 split at h
 ·rename_i e;cases h;exact e
 ·cases h
theorem sR{α β:Type}(k:Key):∀{a:List (Key × α)} {b:List (Key × β)},a.map (·.1)=b.map (·.1)→(a.any fun kv=>decide (kv.1=k))=b.any fun kv=>decide (kv.1=k)
 | [],[],_=>rfl
 | [],_ ::_,h=>by simp at h
 | _ ::_,[],h=>by simp at h
 | x ::a,y ::b,h=>by
   rw[List.map_cons,List.map_cons] at h
   obtain⟨h1,h2⟩:=List.cons.inj h
   rw[List.any_cons,List.any_cons,sR k h2,h1]
theorem xO{K:PySem.W.Frag}{B:List Addr}{H:Hp}{k:Key}{d:D}{v:V}(rv:Rep K B H d v):∀{kvs:List (Key × D)} {ys:List (Key × V)},ys.map (·.1)=kvs.map (·.1)→ay K B H (kvs.map (·.2)) (ys.map (·.2))→
 (ys.map fun kv=>if kv.1=k then(kv.1,v) else kv).map (·.1)=(kvs.map fun kv=>if kv.1=k then(kv.1,d) else kv).map (·.1)∧ay K B H ((kvs.map fun kv=>if kv.1=k then(kv.1,d) else kv).map (·.2)) ((ys.map fun kv=>if kv.1=k then(kv.1,v) else kv).map (·.2))
 | [],[],_,_=>⟨rfl,ay.nil⟩
 | [],_ ::_,h,_=>by simp at h
 | _ ::_,[],h,_=>by simp at h
 | (k1,d1) ::kvs,(k2,v2) ::ys,h,r=>by
   obtain⟨h1,h2⟩:=List.cons.inj h
   have h1:k2=k1:=h1
   subst h1
   obtain⟨x,r',e,q1,q2⟩:=ay.bA r
   cases e
   obtain⟨i1,i2⟩:=xO rv h2 q2
   simp only[List.map_cons]
   by_cases hk:k2=k
   ·rw[if_pos hk,if_pos hk]
    exact⟨by rw[i1],ay.cons rv i2⟩
   ·rw[if_neg hk,if_neg hk]
    exact⟨by rw[i1],ay.cons q1 i2⟩
theorem Hf{K:PySem.W.Frag}{B:List Addr}{H:Hp}{k:Key}{d:D}{v:V}(rv:Rep K B H d v){kvs:List (Key × D)}{ys:List (Key × V)}(h:ys.map (·.1)=kvs.map (·.1))(r:ay K B H (kvs.map (·.2)) (ys.map (·.2))) :
 (putK ys k v).map (·.1)=(sj kvs k d).map (·.1)∧ay K B H ((sj kvs k d).map (·.2)) ((putK ys k v).map (·.2)):=by
 unfold putK sj
 rw[sR k h]
 split
 ·exact xO rv h r
 ·rw[List.map_append,List.map_append,List.map_append,List.map_append,h]
  exact⟨rfl,r.append (ay.cons rv ay.nil)⟩
noncomputable def yb:FX:=fun δ S=> .ok (.loc S.length) (S++[.dct []])
theorem x6{pos:Pos}:PX X cl (.Dict [] [] pos) yb:=⟨zy.imp fun σ H Q ⟨ρ,S,δ,v,S',E,hf,q⟩=>by
 cases hf
 intro p hp
 obtain⟨w,pr⟩:=E.sw.new (a:=p) (o:= .dct []) (aD (o:= .dK []) hp) hp ⟨[],aN,rfl,ay.nil⟩
 exact q _ _ _ pr w (by unfold aL;exact⟨p,by show(ρ.r++[p])[_]? =_;rw [←E.sw.len,List.getElem?_append_right (by omega),Nat.sub_self];rfl,rfl⟩)⟩
noncomputable def xw(fo fi fe:FX):FZ:=fun δ S=>(fe δ S).bind fun v S1=>(fo δ S1).bind fun o S2=>(fi δ S2).bind fun j S3=>match v,o,j with
 | .d d, .loc k, .d (.int n)=>(match jI S3 k with | some kvs=>R3.bt (decide (kvs.length < sizeLine)) (.ok (.nx δ) (S3.set k (.dct (sj kvs (Sum.inl n) d)))) | none=> .no)
 | _,_,_=> .no
theorem xK{o i value:Expr}{fo fi fe:FX}{pos pos':Pos}(hu:X.A.units+1 < cLine)(hv:PX X cl value fe)(ho:PX X cl o fo)(hi:PX X cl i fi)(hs:swapsWith value (some (.Subscript o i pos')) pos.line X.env=pure false:=by rfl):PZ X cl (.Assign [.Subscript o i pos'] value pos) (xw fo fi fe):=
 ⟨(Ci hu ho.1 hi.1 hv.1 hs).imp fun D σ H ⟨ρ,S,δ,ou,S',E,hf,q⟩=>by
   obtain⟨v,S1,h1,h2⟩:=R3.ab hf
   obtain⟨o,S2,h3,h4⟩:=R3.ab h2
   obtain⟨j,S3,h5,h6⟩:=R3.ab h4
   refine⟨ρ,S,δ,v,S1,E,h1,fun u1 ρ1 H1 p1 w1 r1=>⟨ρ1,S1,δ,o,S2,E.to p1 w1,h3,fun u2 ρ2 H2 p2 w2 r2=>⟨ρ2,S2,δ,j,S3,(E.to p1 w1).to p2 w2,h5,fun u3 ρ3 H3 p3 w3 r3=>?_⟩⟩⟩
   split at h6
   ·rename_i d k n
    split at h6
    ·rename_i kvs hd
     obtain⟨hl,h7⟩:=R3.aS h6
     cases h7
     have r2':=r2.pre p3
     unfold aL at r2'
     obtain⟨a,a1,rfl⟩:=r2'
     unfold aL Rep at r3
     subst r3
     obtain⟨ys,y1,y2,y3⟩:=w3.ob k a _ a1 (jD hd)
     have r1':=(r1.pre p2).pre p3
     unfold aL at r1'
     obtain⟨e1,e2'⟩:=Hf (k:=Sum.inl n) r1' y2 y3
     have hll:ys.length=kvs.length:=by have:=congrArg List.length y2;simpa using this
     refine⟨a,_,rfl,zj.k (k:=Sum.inl n) y1 (by rw[hll];exact of_decide_eq_true hl),?_⟩
     obtain⟨w4,p4⟩:=w3.put (o:= .dct (sj kvs (Sum.inl n) d)) (u:= .dK (putK ys (Sum.inl n) u1)) a1 (w3.fz k a a1 (by rw[jD hd];intro h;cases h)) ⟨_,rfl,e1,e2'⟩
     exact q σ ρ3 _ (p1.trans (p2.trans (p3.trans p4))) (E.to (p1.trans (p2.trans (p3.trans p4))) w4)
    ·cases h6
   ·cases h6⟩
noncomputable def FH(fa fo:FX):FX:=fun δ S=>(fa δ S).bind fun j S1=>(fo δ S1).bind fun o S2=>match j,o with
 | .d (.int n), .loc k=>(match jI S2 k with | some kvs=> .ok (.d (.bl (kvs.any fun kv=>decide (kv.1=Sum.inl n)))) S2 | none=> .no)
 | _,_=> .no
theorem Cz{κ:Type} [DecidableEq κ](kvs:List (κ × V))(k:κ):(jt kvs k).isSome=kvs.any fun kv=>decide (kv.1=k):=by
 unfold jt
 rw[Option.isSome_map,Bool.eq_iff_iff,List.find?_isSome,List.any_eq_true]
theorem Er{a b:Expr}{fa fb:FX}{pos:Pos}(hu:X.A.units+1 < cLine)(ha:PX X cl a fa)(hb:PX X cl b fb)(hm:behindInMarks .In b=false):PX X cl (.Compare a [.In] [b] pos) (FH fa fb):=
 ⟨(Gd (GB hu ha.1 hb.1) hm).imp fun σ H Q ⟨ρ,S,δ,v,S',E,hf,q⟩=>by
   obtain⟨j,S1,h1,h2⟩:=R3.ab hf
   obtain⟨o,S2,h3,h4⟩:=R3.ab h2
   refine⟨ρ,S,δ,j,S1,E,h1,fun u1 ρ1 H1 p1 w1 r1=>⟨ρ1,S1,δ,o,S2,E.to p1 w1,h3,fun u2 ρ2 H2 p2 w2 r2=>?_⟩⟩
   split at h4
   ·rename_i n k
    split at h4
    ·rename_i kvs hd
     cases h4
     unfold aL at r2
     obtain⟨ad,a1,rfl⟩:=r2
     unfold aL Rep at r1
     subst r1
     obtain⟨ys,y1,y2,y3⟩:=w2.ob k ad _ a1 (jD hd)
     refine⟨ad,jt ys (Sum.inl n),rfl,qv.k (k:=Sum.inl n) y1,?_⟩
     refine q _ ρ2 H2 (p1.trans p2) w2 ?_
     unfold aL Rep
     rw[Cz,sR (Sum.inl n) y2]
    ·cases h4
   ·cases h4⟩
noncomputable def intK?:List Key→Option (List Int)
 | []=>some []
 | .inl n ::ks=>(intK? ks).map (n ::·)
 | .inr _ ::_=>none
theorem uc:∀{ks:List Key} {ns:List Int},intK? ks=some ns→ks=ns.map Sum.inl
 | [],ns,h=>by cases h;rfl
 | .inl n ::ks,ns,h=>by
   obtain⟨ms,h1,rfl⟩:=kB (show(intK? ks).map (n ::·)=some ns from h)
   rw[List.map_cons,←uc h1]
 | .inr x ::ks,ns,h=>by cases h
theorem xc:∀ns:List Int,intK? (ns.map Sum.inl)=some ns
 | []=>rfl
 | n ::ns=>by show(intK? (ns.map Sum.inl)).map (n ::·)=_;rw [xc ns];rfl
noncomputable def vx(f:FX):FX:=fun δ S=>(f δ S).bind fun o S1=>match o with
 | .loc k=>(match jI S1 k with
   | some kvs=>(match intK? (kvs.map (·.1)) with | some ns=>R3.bt (decide (ns.length < 64)) (.ok (.d (.lst ((nG ns).map .int))) S1) | none=> .no)
   | none=> .no)
 | _=> .no
theorem zF{e:Expr}{f:FX}{p pos:Pos}(hc:X.calm=true)(h:PX X cl e f)(hg:Gl X "sorted")(hm:X.mg "sorted"=none)(he:starEach [e] X.env=(false,eval e X.env) ::starEach [] X.env:=by rfl):PX X cl (.Call (.Name "sorted" p) [e] [] pos) (vx f):=
 ⟨(lV (wg hc) hg hm PyProof.Rows.boot_sorted (dz h.1 f7 he) (he:=he)).imp fun σ H Q ⟨ρ,S,δ,v,S',E,hf,q⟩=>by
   obtain⟨o,S1,h1,h2⟩:=R3.ab hf
   refine⟨ρ,S,δ,o,S1,E,h1,fun u1 ρ1 H1 p1 w1 r1=>?_⟩
   split at h2
   ·rename_i k
    split at h2
    ·rename_i kvs hd
     split at h2
     ·rename_i ns hn
      obtain⟨hl,h3⟩:=R3.aS h2
      cases h3
      unfold aL at r1
      obtain⟨a,a1,rfl⟩:=r1
      obtain⟨ys,y1,y2,y3⟩:=w1.ob k a _ a1 (jD hd)
      refine⟨a,ys,ns,rfl,y1,by rw[y2];exact uc hn,of_decide_eq_true hl,fun p hp=>q _ ρ1 _ (p1.trans (iF hp)) (w1.same (aD hp)) ?_⟩
      unfold aL
      refine Rep.lst.mpr ⟨p,_,rfl, .lG aN fun ha=>?_,ints_rep _⟩
      obtain⟨o,ho⟩:=w1.bs p ha
      rw[hp] at ho;cases ho
     ·cases h2
    ·cases h2
   ·cases h2⟩
theorem EK{P:Program}{w:World}{K:PySem.W.Frag}{mg:Str→Option Value}{base:Heap}{k n:Nat}{f:Addr}{fd:FuncData}{ps:List Str}:f_ P w K mg base qk k f fd ps (zo K cl n fun _ _=> .no):=
 ⟨fun vs H Q E h=>(by obtain⟨_,_,_,_,_,_,_,_,h,_⟩:=h;cases h),fun A outer s H args us vs Q E _ _ _ _ h=>(by obtain⟨_,_,_,_,_,_,_,_,h,_⟩:=h;cases h)⟩
theorem AV{δ:DE}{S:aF}{QV:V3→aF→Prop}(h:QV (.loc S.length) (S++[.dct []])):W3 (yb δ S) QV:=W3.ok h
theorem Bd{fo fi fe:FX}{δ:DE}{S:aF}{QO:Ou→aF→Prop}(h:W3 (fe δ S) fun v S1=>W3 (fo δ S1) fun o S2=>W3 (fi δ S2) fun j S3=>∃d k n kvs,v= .d d∧o= .loc k∧j= .d (.int n)∧S3[k]? =some (.dct kvs)∧kvs.length < sizeLine∧QO (.nx δ) (S3.set k (.dct (sj kvs (Sum.inl n) d)))):W3 (xw fo fi fe δ S) QO:=
 W3.bind (h.mono fun _ _ h=>W3.bind (h.mono fun _ _ h=>W3.bind (h.mono fun _ S3 ⟨d,k,n,kvs,e1,e2,e3,e4,hl,q⟩=>by
  subst e1 e2 e3
  have e5:jI S3 k=some kvs:=by unfold jI;simp only[e4]
  simp only[e5]
  exact W3.wh (decide_eq_true hl) (W3.ok q))))
theorem Ho{fa fb:FX}{δ:DE}{S:aF}{QV:V3→aF→Prop}(h:W3 (fa δ S) fun j S1=>W3 (fb δ S1) fun o S2=>∃n k kvs,j= .d (.int n)∧o= .loc k∧S2[k]? =some (.dct kvs)∧QV (.d (.bl (kvs.any fun kv=>decide (kv.1=Sum.inl n)))) S2):W3 (FH fa fb δ S) QV:=
 W3.bind (h.mono fun _ _ h=>W3.bind (h.mono fun _ S2 ⟨n,k,kvs,e1,e2,e3,q⟩=>by
  subst e1 e2
  have e4:jI S2 k=some kvs:=by unfold jI;simp only[e3]
  simp only[e4]
  exact W3.ok q))
theorem CU{f:FX}{δ:DE}{S:aF}{QV:V3→aF→Prop}(h:W3 (f δ S) fun o S1=>∃k kvs ns,o= .loc k∧S1[k]? =some (.dct kvs)∧kvs.map (·.1)=ns.map Sum.inl∧ns.length < 64∧QV (.d (.lst ((nG ns).map .int))) S1):W3 (vx f δ S) QV:=
 W3.bind (h.mono fun _ S1 ⟨k,kvs,ns,e1,e2,e3,hl,q⟩=>by
  subst e1
  have e4:jI S1 k=some kvs:=by unfold jI;simp only[e2]
  simp only[e4,e3,xc]
  exact W3.wh (decide_eq_true hl) (W3.ok q))
end
end L3
end
section
set_option maxRecDepth 100000
set_option maxHeartbeats 4000000
namespace L2
open PySem PySem.Spec PyProof.Rows
section
variable {X:Cx}
noncomputable def IE:V→List V→Hp→VK→Prop:=fun x vs H Q=>∃(l:Addr) (xs:List V) (j:Int) (i:Nat) (y:V),x= .ref l∧vs=[.int j,y]∧H l=some (.lst xs)∧j=i∧i≤xs.length∧xs.length < sizeLine∧Q .bX (upd H l (.lst (xs.take i++y ::xs.drop i)))
end
end L2
namespace L3
open PySem PySem.Spec PyProof.Rows L2
section
variable {X:Cx} {cl:Nat→Addr}
noncomputable def KR(i:Nat)(f g:FX):FZ:=fun δ S=>match eO δ i with
 | none=> .no
 | some k=>match cq S k with
   | none=> .no
   | some _=>(f δ S).bind fun v S1=>match v with
     | .d (.int j)=>(g δ S1).bind fun w S2=>(match w with
       | .d d=>(match cq S2 k with
         | some ds=>R3.bt (decide (0≤j∧j.toNat≤ds.length∧ds.length < sizeLine)) (.ok (.nx δ) (S2.set k (.lst (ds.take j.toNat++d ::ds.drop j.toNat))))
         | none=> .no)
       | _=> .no)
     | _=> .no
end
end L3
end
section
set_option maxRecDepth 100000
set_option maxHeartbeats 4000000
namespace L3
open PySem PySem.Spec PyProof.Rows L2
section
variable {X:Cx} {cl:Nat→Addr}
structure L4 (X:Cx) (pos:Pos) (keys:List (Option Expr)) (values:List Expr) (ks:List Str) (g:aq→R (List D)):Prop where
 h:∃trs,Ls X pos keys values trs∧∀(σ:L2.St) (H:Hp) (Q:List (V × V)→Hp→Prop),(∃Z B δ ds,dH X.K Z B H σ δ∧g δ= .ok ds∧∀vs H',aK H H'→ay X.K B H' ds vs→Q ((ks.zip vs).map fun p=>(V.str p.1,p.2)) H')→rZ trs σ H Q
noncomputable def Gj(ks:List Str)(ns:List Int):List (Key × D):=(ks.zip ns).foldl (fun acc p=>sj acc (Sum.inr p.1) (.int p.2)) []
noncomputable def JL(ks:List Str)(g:aq→R (List D)):FX:=fun δ S=>(R3.of (g (down δ)) S).bind fun ds S=>match ints? ds with
 | some ns=>R3.bt (decide (ns.length=ks.length∧ks.length≤15)) (.ok (.loc S.length) (S++[.dct (Gj ks ns)]))
 | none=> .no
noncomputable def JQ(kvs:List (Key × D))(k:Key):Option D:=(kvs.find? fun kv=>decide (kv.1=k)).map (·.2)
noncomputable def Ke(i:Nat)(f g:FD):FX:=fun δ S=>match eO δ i with
 | none=> .no
 | some k=>match jI S k with
   | none=> .no
   | some kvs=>(R3.of (f (down δ)) S).bind fun kd S=>(R3.of (g (down δ)) S).bind fun d S=>match kd with
     | .str x=> .ok (.d ((JQ kvs (Sum.inr x)).getD d)) S
     | _=> .no
end
end L3
end
section
set_option maxRecDepth 100000
set_option maxHeartbeats 4000000
namespace L2
open PySem PySem.Spec PyProof.Rows
section
variable {X:Cx}
noncomputable def Kc:List D→R D
 | [.tup ds]=>(match ints? ds with | some ns=> .ok (.int ns.sum) | none=> .no)
 | ds=>Jq ds
end
end L2
end
section
set_option maxRecDepth 100000
set_option maxHeartbeats 4000000
namespace L2
open PySem PySem.Spec PyProof.Rows
section
variable {X:Cx}
noncomputable def Kr(d e:D):R D:=match d,e with
 | .tup a, .int k=>R.bt (decide (2≤k∧k < 1000∧a≠[]∧a.length*k.toNat≤sizeLine)) (.ok (.tup (List.replicate k.toNat a).flatten))
 | d,e=>kJ d e
end
end L2
end
section
set_option maxRecDepth 100000
set_option maxHeartbeats 4000000
namespace NT
noncomputable def mx(f:Nat→Nat)(w:List Nat):Nat:=(w.map f).foldl max 0
structure BA (f:Nat→Nat) (M:Nat) (bs:List Int):Prop where
 a:∀(z:Nat) (v:Int),bs[z]? =some v→v= -1∨(0≤v∧v+f z≤M)
noncomputable def BB(f:Nat→Nat)(M:Nat)(bs:List Int)(n:Nat):Prop:=∃(z:Nat) (v:Int),z < n∧bs[z]? =some v∧0≤v∧(M:Int)≤v+f z
noncomputable def Up(bs bs':List Int):Prop:=bs'.length=bs.length∧∀(z:Nat) (v:Int),bs[z]? =some v→∃v',bs'[z]? =some v'∧v≤v'
end NT
namespace NT
open PySem PySem.Spec PyProof.Rows L2 L3
structure Gt where
 k:Str
 w:List Nat
 s:Bool
noncomputable def nN(z:Nat):D:= .int z
noncomputable def wN(w:List Nat):D:= .tup (w.map nN)
noncomputable def gN(g:Gt):D:= .tup [.str g.k,wN g.w, .bl g.s]
noncomputable def iN(x:Str × Nat):D:= .tup [.str x.1, .int x.2]
noncomputable def oN(x:Str × List Nat):D:= .tup [.str x.1,wN x.2]
structure Net where
 i:List (Str × Nat)
 g:List Gt
 o:List (Str × List Nat)
noncomputable def Net.d(n:Net):D:= .tup [.lst (n.i.map iN), .lst (n.g.map gN), .lst (n.o.map oN)]
noncomputable def Net.first(n:Net):Nat:=(n.i.map (·.2)).sum
structure J5 (n:Nat) (w:List Nat):Prop where
 ne:w≠[]
 le:w.length≤3
 lt:∀z∈w,z < n
structure Net.Ok (n:Net):Prop where
 i1:1≤n.i.length
 i6:n.i.length≤6
 iw:∀x∈n.i,1≤x.2∧x.2≤3
 is:∀x∈n.i,lr 0 (.str x.1)
 g60:n.g.length≤60
 gw:∀(p:Nat) (g:Gt),n.g[p]? =some g→J5 (n.first+p) g.w
 gs:∀g∈n.g,lr 0 (.str g.k)
 o1:1≤n.o.length
 o6:n.o.length≤6
 ow:∀x∈n.o,J5 (n.first+n.g.length) x.2
 os:∀x∈n.o,lr 0 (.str x.1)
theorem eq_self{n:Nat}{ds:List D}(h:lr n (.tup ds))(hn:n≤64):mB (.tup ds) (.tup ds)= .ok (.bl true):=by unfold mB;rw [h.eqT hn];rfl
inductive Sm:Nat→D→Prop where
 | int (n:Nat) (i:Int):Sm n (.int i)
 | bl (n:Nat) (b:Bool):Sm n (.bl b)
 | str (n:Nat) (s:Str):Sm n (.str s)
 | lst {n:Nat} {ds:List D} (h:∀d∈ds,Sm n d) (hl:ds.length≤1000000):Sm (n+1) (.lst ds)
 | tup {n:Nat} {ds:List D} (h:∀d∈ds,Sm n d) (hl:ds.length≤1000000):Sm (n+1) (.tup ds)
theorem kr{F G:FS}{δ:aq}{d:D}(h:F δ= .ok (.rt d)):gg F G δ= .ok (.rt d):=by unfold gg;rw [h];rfl
theorem BC{m i:Nat}{v:V3}(h:((gp 0 m).map V3.d)[i]? =some v):i < m∧v= .d (.int i):=by
 rw[List.getElem?_map,gp,List.getElem?_map] at h
 cases q:(List.range m)[i]? with
 | none=>rw [q] at h;cases h
 | some j=>
   rw[q] at h;cases h
   obtain⟨q1,q2⟩:=List.getElem?_eq_some_iff.mp q
   rw[List.getElem_range] at q2
   rw[List.length_range] at q1
   subst q2
   exact⟨q1,by simp⟩
theorem Ca(lo:Int)(m:Nat):(gp lo m).length=m:=by rw[gp,List.length_map,List.length_range]
theorem uu(lo:Int)(m:Nat):((gp lo m).map V3.d).length=m:=by rw[List.length_map,Ca]
theorem gS{α:Type}{l:List α}{f:α→D}{i:Nat}{v:V3}(h:((l.map f).map V3.d)[i]? =some v):∃x,l[i]? =some x∧v= .d (f x):=by
 rw[List.getElem?_map,List.getElem?_map] at h
 cases q:l[i]? with
 | none=>rw [q] at h;cases h
 | some x=>rw [q] at h;cases h;exact⟨x,rfl,rfl⟩
theorem oB{α:Type}{l:List α}{f:α→D}{i:Nat}{v:D}(h:(l.map f)[i]? =some v):∃x,l[i]? =some x∧v=f x:=by
 rw[List.getElem?_map] at h
 cases q:l[i]? with
 | none=>rw [q] at h;cases h
 | some x=>rw [q] at h;cases h;exact⟨x,rfl,rfl⟩
theorem cI{α:Type}{t:FT}{c:aq→R Bool}{f:FD}{δ:aq}(a b:α→D):∀{xs:List α},(∀x∈xs,∃δ1,t (a x) δ= .ok δ1∧c δ1= .ok true∧f δ1= .ok (b x))→me t c f δ (xs.map a)= .ok (xs.map b)
 | [],_=>rfl
 | x ::xs,h=>by
   obtain⟨δ1,h1,h2,h3⟩:=h x List.mem_cons_self
   have ih:=cI (t:=t) (c:=c) (f:=f) (δ:=δ) a b (xs:=xs) fun y hy=>h y (List.mem_cons_of_mem _ hy)
   rw[List.map_cons]
   unfold me
   rw[h1,R.aP,h2,R.aP,if_pos rfl,h3,R.aP,ih]
   rfl
theorem jv{α:Type}{t:FT}{c:aq→R Bool}{f:FD}{δ:aq}(p:α→Bool)(a b:α→D):∀{xs:List α},(∀x∈xs,∃δ1,t (a x) δ= .ok δ1∧c δ1= .ok (p x)∧(p x=true→f δ1= .ok (b x)))→me t c f δ (xs.map a)= .ok ((xs.filter p).map b)
 | [],_=>rfl
 | x ::xs,h=>by
   obtain⟨δ1,h1,h2,h3⟩:=h x List.mem_cons_self
   have ih:=jv (t:=t) (c:=c) (f:=f) (δ:=δ) p a b (xs:=xs) fun y hy=>h y (List.mem_cons_of_mem _ hy)
   rw[List.map_cons]
   unfold me
   rw[h1,R.aP,h2,R.aP]
   cases e:p x with
   | true=>rw [if_pos rfl,h3 e,R.aP,ih,List.filter_cons,if_pos e];rfl
   | false=>rw [if_neg (by decide),ih,List.filter_cons,if_neg (by rw[e];decide)]
theorem si{n z:Nat}(h:z < n):qj n (z:Int)=some z:=by
 unfold qj
 rw[if_pos (by omega),if_pos (by omega)]
 simp
theorem AO{α:Type}{xs:List α}{z:Nat}{x:α}(h:xs[z]? =some x):nR xs (z:Int)=some x:=by
 have hl:=(List.getElem?_eq_some_iff.mp h).1
 unfold nR
 rw[si hl]
 exact h
theorem r6{ds:List D}{z:Nat}{x:D}(h:ds[z]? =some x):cR (.lst ds) (.int z)= .ok x:=wH (AO h)
end NT
end
section
set_option maxRecDepth 100000
set_option maxHeartbeats 4000000
namespace MT
open PySem PySem.Spec PyProof.Rows L2 L3
noncomputable abbrev M:=Nat→Bool
theorem G7{N:List Str}{F:FZ}{vs:List V3}{δ:DE}{S:aF}{QV:V3→aF→Prop}(e:bE N vs=δ)(h:W3 (F δ S) fun o S1=>∃δ',o= .nx δ'∧QV (.d .bX) S1):W3 (l6 N F vs S) QV:=by
 subst e
 exact W3.bind (h.mono fun _ _ ⟨_,e,q⟩=>by subst e;exact W3.ok q)
noncomputable def jf:Nat→M→Nat
 | 0,_=>0
 | N+1,f=>(if f 0 then 1 else 0)+2*jf N (fun i=>f (i+1))
theorem gC:∀(N:Nat) (f:M) (i:Nat),(jf N f).testBit i=(decide (i < N) && f i)
 | 0,f,i=>by unfold jf;simp
 | N+1,f,0=>by
   unfold jf
   rw[Nat.testBit_zero]
   cases f 0 <;> simp <;> omega
 | N+1,f,i+1=>by
   unfold jf
   rw[Nat.testBit_succ]
   have:((if f 0=true then 1 else 0)+2*jf N fun i=>f (i+1)) / 2=jf N fun i=>f (i+1):=by split <;> omega
   rw[this,gC N _ i]
   simp
theorem kG:∀{N:Nat} {f g:M},(∀i,i < N→f i=g i)→jf N f=jf N g
 | 0,_,_,_=>rfl
 | N+1,f,g,h=>by
   unfold jf
   rw[h 0 (by omega),kG (N:=N) fun i hi=>h (i+1) (by omega)]
theorem x4(N:Nat)(f g:M):jf N f &&& jf N g=jf N fun i=>f i && g i:=by
 refine Nat.eq_of_testBit_eq fun i=>?_
 rw[Nat.testBit_and,gC,gC,gC]
 cases decide (i < N) <;> simp
theorem Ao(N:Nat)(f g:M):jf N f ||| jf N g=jf N fun i=>f i || g i:=by
 refine Nat.eq_of_testBit_eq fun i=>?_
 rw[Nat.testBit_or,gC,gC,gC]
 cases decide (i < N) <;> simp
theorem xR:∀(N:Nat) (f g:M),((jf N fun i=>f i || g i:Nat):Int) - (jf N fun i=>f i && g i:Nat)=(jf N fun i=>f i !=g i:Nat)
 | 0,f,g=>rfl
 | N+1,f,g=>by
   have ih:=xR N (fun i=>f (i+1)) (fun i=>g (i+1))
   have e:∀h:M,jf (N+1) h=(if h 0 then 1 else 0)+2*jf N (fun i=>h (i+1)):=fun _=>rfl
   rw[e,e,e]
   generalize jf N (fun i=>f (i+1) || g (i+1))=a at ih ⊢
   generalize jf N (fun i=>f (i+1) && g (i+1))=b at ih ⊢
   generalize jf N (fun i=>f (i+1) !=g (i+1))=c at ih ⊢
   show(((if(f 0 || g 0) then 1 else 0)+2*a:Nat):Int) - ((if(f 0 && g 0) then 1 else 0)+2*b:Nat)=((if(f 0 !=g 0) then 1 else 0)+2*c:Nat)
   cases f 0 <;> cases g 0 <;> simp <;> omega
theorem uA(x y:Nat):Builtin.bitAnd (x:Int) (y:Int)=((x &&& y:Nat):Int):=by
 unfold Builtin.bitAnd
 rw[decide_eq_true (by omega:(0:Int)≤x),decide_eq_true (by omega:(0:Int)≤y)]
 simp
theorem xY(x y:Nat):Builtin.bitOr (x:Int) (y:Int)=((x ||| y:Nat):Int):=by
 unfold Builtin.bitOr Builtin.bitAnd Builtin.bitNot
 rw[decide_eq_false (by omega:¬(0:Int)≤ -(x:Int) - 1),decide_eq_false (by omega:¬(0:Int)≤ -(y:Int) - 1)]
 show -(-(((-(-(x:Int) - 1) - 1).toNat ||| (-(-(y:Int) - 1) - 1).toNat:Nat):Int) - 1) - 1=_
 rw[show(-(-(x:Int) - 1) - 1).toNat=x by omega,show(-(-(y:Int) - 1) - 1).toNat=y by omega]
 omega
noncomputable def mI(N:Nat)(f:M):D:= .int (jf N f:Nat)
theorem uK{N:Nat}{f g:M}(h:∀i,i < N→f i=g i):mI N f=mI N g:=by unfold mI;rw [kG h]
theorem p9(N:Nat)(f g:M):Dv (mI N f) (mI N g)= .ok (mI N fun i=>f i && g i):=by
 show R.ok (D.int (Builtin.bitAnd (jf N f:Int) (jf N g:Int)))=_
 rw[uA,x4];rfl
theorem tO(N:Nat)(f g:M):BX (mI N f) (mI N g)= .ok (mI N fun i=>f i || g i):=by
 show R.ok (D.int (Builtin.bitOr (jf N f:Int) (jf N g:Int)))=_
 rw[xY,Ao];rfl
theorem qQ(N:Nat)(f g:M):xi (mI N f) (mI N g)= .ok (mI N fun i=>f i !=g i):=by
 show R.ok (D.int (Builtin.bitOr (jf N f:Int) (jf N g:Int) - Builtin.bitAnd (jf N f:Int) (jf N g:Int)))=_
 rw[xY,uA,Ao,x4,xR];rfl
noncomputable def one:M:=fun _=>true
theorem ur(N:Nat)(f:M):xi (mI N one) (mI N f)= .ok (mI N fun i=>!f i):=by
 rw[qQ]
 have:(fun i=>one i !=f i)=fun i=>!f i:=by funext i;unfold one;simp
 rw[this]
theorem zG(N:Nat)(f:M)(c:Bool):(if c then xi (mI N one) (mI N f) else .ok (mI N f))= .ok (mI N fun i=>f i !=c):=by
 cases c with
 | true=>
   rw[if_pos rfl,ur]
   have:(fun i=>!f i)=fun i=>f i !=true:=by funext i;cases f i <;> rfl
   rw[this]
 | false=>
   rw[if_neg (by decide)]
   have:f=fun i=>f i !=false:=by funext i;cases f i <;> rfl
   rw[←this]
theorem i0{N:Nat}{f:M}:jf N f=0↔∀i,i < N→f i=false:=by
 constructor
 ·intro h i hi
  have:=gC N f i
  rw[h,Nat.zero_testBit,decide_eq_true hi,Bool.true_and] at this
  exact this.symm
 ·intro h
  refine Nat.eq_of_testBit_eq fun i=>?_
  rw[gC,Nat.zero_testBit]
  by_cases q:i < N
  ·rw[h i q];simp
  ·rw[decide_eq_false q];rfl
noncomputable def bI(b:Bool):D:= .int (if b then 1 else 0)
noncomputable def BW:List Bool→Nat
 | []=>0
 | b ::bs=>(if b then 1 else 0)+2*BW bs
theorem zM:∀bs:List Bool,BW bs=jf bs.length fun i=>bs.getD i false
 | []=>rfl
 | b ::bs=>by
   unfold BW
   rw[zM bs]
   rfl
noncomputable def nI(n:Nat):D:= .int (n:Int)
noncomputable def kS:Nat→Str | 0=>Str.ofString "not" | 1=>Str.ofString "and" | 2=>Str.ofString "or" | 3=>Str.ofString "xor" | _=>Str.ofString "vote"
noncomputable def ar:Nat→Nat | 0=>1 | 4=>3 | _=>2
theorem HC(k:Nat):ar k≤3:=by unfold ar;split <;> omega
noncomputable def gv:Nat→List Bool→Bool
 | 0,[a]=>!a
 | 1,[a,b]=>a && b
 | 2,[a,b]=>a || b
 | 3,[a,b]=>a !=b
 | 4,[a,b,c]=>(a && b) || (a && c) || (b && c)
 | _,_=>false
noncomputable def cu(ws:List M)(n:Nat):M:=ws.getD n fun _=>false
theorem DH{ws:List M}{b:M}{n:Nat}(h:n < ws.length):cu (ws++[b]) n=cu ws n:=by
 unfold cu
 rw[List.getD_eq_getElem?_getD,List.getElem?_append_left h,List.getD_eq_getElem?_getD]
theorem AM(ws:List M)(b:M):cu (ws++[b]) ws.length=b:=by
 unfold cu
 rw[List.getD_eq_getElem?_getD,List.getElem?_append_right (Nat.le_refl _),Nat.sub_self]
 rfl
noncomputable abbrev Gt:=Nat × List Nat × Bool
noncomputable def eW(g:Gt):D:= .tup [.str (kS g.1), .tup (g.2.1.map nI), .bl g.2.2]
noncomputable def sg(n:Nat)(g:Gt):Prop:=g.1≤4∧g.2.1.length=ar g.1∧∀w∈g.2.1,w < n
noncomputable def inD(x:Str × Nat):D:= .tup [.str x.1,nI x.2]
noncomputable def wx(x:Str × List Nat):D:= .tup [.str x.1, .tup (x.2.map nI)]
noncomputable def cg(ins:List (Str × Nat))(gs:List Gt)(os:List (Str × List Nat)):D:= .tup [.lst (ins.map inD), .lst (gs.map eW), .lst (os.map wx)]
noncomputable def lS(ins:List (Str × Nat)):Nat:=(ins.map (·.2)).sum
noncomputable def gF(g:Gt)(ws:List M):M:=fun p=>gv g.1 (g.2.1.map fun n=>cu ws n p)
noncomputable def l7(bad:List Int)(b:M):Nat→List M→List M
 | 0,ws=>ws
 | n+1,ws=>l7 bad b n ws++[fun p=>b p !=bad.contains ((l7 bad b n ws).length:Int)]
theorem kx(bad:List Int)(b:M):∀n ws,(l7 bad b n ws).length=ws.length+n
 | 0,ws=>rfl
 | n+1,ws=>by unfold l7;rw [List.length_append,kx bad b n ws];rfl
noncomputable def ft(ins:List (Str × Nat))(bits:List M)(bad:List Int):Nat→List M
 | 0=>[]
 | i+1=>match ins[i]?,bits[i]? with | some x,some b=>l7 bad b x.2 (ft ins bits bad i) | _,_=>ft ins bits bad i
theorem lY{ins:List (Str × Nat)}{bits:List M}{bad:List Int}(hb:bits.length=ins.length):∀i,i≤ins.length→(ft ins bits bad i).length=lS (ins.take i)
 | 0,_=>rfl
 | i+1,hi=>by
   have h1:ins[i]? =some ins[i]:=List.getElem?_eq_getElem (by omega)
   have h2:bits[i]? =some bits[i]:=List.getElem?_eq_getElem (by omega)
   unfold ft
   rw[h1,h2]
   show(l7 bad bits[i] ins[i].2 (ft ins bits bad i)).length=_
   rw[kx,lY hb i (by omega),List.take_add_one,h1]
   unfold lS
   simp only[Option.toList_some,List.map_append,List.sum_append,List.map_cons,List.map_nil,List.sum_cons,List.sum_nil]
   omega
noncomputable def rh(gs:List Gt)(turned:List Int)(w0:List M):Nat→List M
 | 0=>w0
 | i+1=>match gs[i]? with | some g=>rh gs turned w0 i++[fun p=>gF g (rh gs turned w0 i) p !=turned.contains (i:Int)] | none=>rh gs turned w0 i
theorem mw{gs:List Gt}{turned:List Int}{w0:List M}:∀i,i≤gs.length→(rh gs turned w0 i).length=w0.length+i
 | 0,_=>rfl
 | i+1,hi=>by
   have h1:gs[i]? =some gs[i]:=List.getElem?_eq_getElem (by omega)
   unfold rh
   rw[h1]
   show(rh gs turned w0 i++[_]).length=_
   rw[List.length_append,mw i (by omega)]
   rfl
structure kP (ins:List (Str × Nat)) (gs:List Gt) (os:List (Str × List Nat)):Prop where
 hi:ins.length < 100
 hw:∀x∈ins,x.2 < 100
 hg:gs.length < 1000
 g:∀(i:Nat) (x:Gt),gs[i]? =some x→sg (lS ins+i) x
 ho:os.length < 1000
 o:∀x∈os,x.2.length < 1000∧∀w∈x.2,w < lS ins+gs.length
noncomputable def sk(ins:List (Str × Nat))(gs:List Gt)(bits:List M)(turned bad:List Int):List M:=rh gs turned (ft ins bits bad ins.length) gs.length
theorem zD:∀{l:List (Str × Nat)},(∀x∈l,x.2 < 100)→lS l≤100*l.length
 | [],_=>by simp [lS]
 | x ::l,h=>by
   have ih:=zD (l:=l) fun y hy=>h y (List.mem_cons_of_mem _ hy)
   have:=h x List.mem_cons_self
   unfold lS at ih ⊢
   rw[List.map_cons,List.sum_cons,List.length_cons]
   omega
theorem Ae{ins:List (Str × Nat)}{gs:List Gt}{bits:List M}{turned bad:List Int}(hb:bits.length=ins.length):(sk ins gs bits turned bad).length=lS ins+gs.length:=by unfold sk;rw [mw _ (Nat.le_refl _),lY hb _ (Nat.le_refl _),List.take_length]
noncomputable def tell(ws:List M)(x:Str × List Nat):List M:=x.2.map (cu ws)
noncomputable def IK:List Bool→Bool × Bool
 | [a]=>(!a,a)
 | [a,b]=>(!(a || b),a && b)
 | [a,b,c]=>let v:=(a && b) || (a && c) || (b && c);(!v,v)
 | _=>(false,false)
noncomputable def brk(safe:Bool)(x y:Bool × Bool):Bool:=if safe then(x.1 && y.2) || (x.2 && y.1) else(x.1 !=y.1) || (x.2 !=y.2)
theorem tp(i:Int)(ps:List Int):tV (.int i) (.tup (ps.map .int))= .ok (.bl (ps.contains i)):=by
 show((match ints? (ps.map D.int) with | some ss=>R.ok (ss.contains i) | none=> .no)).bind (fun b=>R.ok (D.bl b))=_
 rw[L2.ints_map];rfl
theorem l_{ds:List D}{i:Nat}{v:V3}(h:((bV ds).map V3.d)[i]? =some v):∃d,ds[i]? =some d∧v= .d (.tup [.int i,d]):=by
 rw[List.getElem?_map,bV,List.getElem?_map,List.getElem?_zipIdx] at h
 cases q:ds[i]? with
 | none=>rw [q] at h;cases h
 | some d=>
   rw[q] at h
   simp at h
   exact⟨d,rfl,h.symm⟩
theorem sF{c:aq→R Bool}{f g:FD}{δ:aq}{b:Bool}{r:R D}(h:c δ= .ok b)(h2:(if b then f δ else g δ)=r):xh c f g δ=r:=by unfold xh;rw [h,R.aP];exact h2
theorem cG(S:aF)(x y:SO):(S++[x]).set S.length y=S++[y]:=by
 rw[List.set_append_right _ _ (Nat.le_refl _),Nat.sub_self];rfl
theorem bh(S:aF)(x:SO):(S++[x])[S.length]? =some x:=by rw[List.getElem?_append_right (Nat.le_refl _),Nat.sub_self];rfl
theorem se{N:Nat}{ws:List M}{n:Nat}(h:n < ws.length):cR (.lst (ws.map (mI N))) (nI n)= .ok (mI N (cu ws n)):=by
 refine NT.r6 ?_
 rw[List.getElem?_map,List.getElem?_eq_getElem h]
 unfold cu
 rw[List.getD_eq_getElem?_getD,List.getElem?_eq_getElem h]
 rfl
end MT
namespace MT
open PySem PySem.Spec PyProof.Rows L2 L3
noncomputable def gH:List Nat→Nat→List (List Nat)
 | _,0=>[[]]
 | ps,s+1=>(List.range ps.length).flatMap fun a=>(gH (ps.drop (a+1)) s).map (ps.getD a 0 ::·)
theorem ij:∀{s:Nat} {ps T:List Nat},T∈gH ps s→T.length=s∧∀x∈T,x∈ps
 | 0,ps,T,h=>by unfold gH at h;rw [List.mem_singleton.mp h];simp
 | s+1,ps,T,h=>by
   unfold gH at h
   obtain⟨a,ha,h⟩:=List.mem_flatMap.mp h
   obtain⟨R,hR,rfl⟩:=List.mem_map.mp h
   rw[List.mem_range] at ha
   obtain⟨h1,h2⟩:=ij hR
   refine⟨by simp [h1],fun x hx=>?_⟩
   rcases List.mem_cons.mp hx with rfl | hx
   ·rw[List.getD_eq_getElem?_getD,List.getElem?_eq_getElem ha];exact List.getElem_mem ha
   ·exact List.mem_of_mem_drop (h2 x hx)
theorem vz:∀{l:List Nat} {m:Nat},(∀x∈l,x≤m)→l.sum≤l.length*m
 | [],_,_=>by simp
 | x ::l,m,h=>by
   have:=vz (l:=l) (m:=m) fun y hy=>h y (List.mem_cons_of_mem _ hy)
   have h0:=h x List.mem_cons_self
   rw[List.sum_cons,List.length_cons,Nat.add_mul]
   omega
theorem kC:∀{s:Nat} {ps:List Nat} {n:Nat},ps.length≤n→(gH ps s).length≤n ^ s
 | 0,ps,n,_=>by unfold gH;simp
 | s+1,ps,n,h=>by
   unfold gH
   rw[List.length_flatMap,Nat.pow_succ]
   refine Nat.le_trans (vz (m:=n ^ s) fun x hx=>?_) ?_
   ·obtain⟨a,_,rfl⟩:=List.mem_map.mp hx
    rw[List.length_map]
    exact kC (by rw[List.length_drop];omega)
   ·rw[List.length_map,List.length_range,Nat.mul_comm]
    exact Nat.mul_le_mul_left _ h
theorem pQ{F G:FZ}{δ:DE}{S:aF}{QO:Ou→aF→Prop}(h:W3 (F δ S) fun o S1=>match o with | .nx δ1=>W3 (G δ1 S1) QO | .rt v=>QO (.rt v) S1):W3 (bu F G δ S) QO:=
 W3.bind (h.mono fun o S1 q=>by cases o with | nx δ1=>exact q | rt v=>exact W3.ok q)
end MT
end
section
set_option maxRecDepth 100000
set_option maxHeartbeats 400000
namespace MT
open PySem PySem.Spec PyProof.Rows L2 L3
theorem sY{gs:List Gt}{t:List Int}{w0:List M}{n:Nat}:∀{j i:Nat},i≤j→j≤gs.length→n < w0.length+i→cu (rh gs t w0 j) n=cu (rh gs t w0 i) n
 | 0,i,h,_,_=>by rw[Nat.le_zero.mp h]
 | j+1,i,h,hj,hn=>by
   by_cases e:i=j+1
   ·rw[e]
   ·have h1:gs[j]? =some gs[j]:=List.getElem?_eq_getElem (by omega)
    rw[←sY (j:=j) (i:=i) (by omega) (by omega) hn]
    conv=>lhs;unfold rh
    rw[h1]
    exact DH (by rw[mw _ (by omega)];omega)
section
variable {ins:List (Str × Nat)} {gs:List Gt} {bits:List M} {T bad:List Int} {p:Nat}
theorem D6(hb:bits.length=ins.length):(ft ins bits bad ins.length).length=lS ins:=by rw[lY hb _ (Nat.le_refl _),List.take_length]
theorem D3(hb:bits.length=ins.length){n:Nat}(h:n < lS ins):cu (sk ins gs bits T bad) n=cu (ft ins bits bad ins.length) n:=by
 unfold sk
 rw[sY (i:=0) (Nat.zero_le _) (Nat.le_refl _) (by rw[D6 hb];exact h)]
 rfl
theorem xF(hb:bits.length=ins.length){i:Nat}{g:Gt}(h:gs[i]? =some g)(hg:sg (lS ins+i) g) :
 cu (sk ins gs bits T bad) (lS ins+i) p=(gv g.1 (g.2.1.map fun n=>cu (sk ins gs bits T bad) n p) !=T.contains (i:Int)):=by
 have hi:i < gs.length:=(List.getElem?_eq_some_iff.mp h).1
 have hw:=D6 (bad:=bad) hb
 unfold sk
 rw[sY (i:=i+1) (by omega) (Nat.le_refl _) (by rw[hw];omega)]
 conv=>lhs;unfold rh
 rw[h]
 have hl:(rh gs T (ft ins bits bad ins.length) i).length=lS ins+i:=by rw[mw _ (by omega),hw]
 show cu (rh gs T (ft ins bits bad ins.length) i++[_]) (lS ins+i) p=_
 rw[←hl,AM]
 show(gv g.1 (g.2.1.map fun n=>cu (rh gs T (ft ins bits bad ins.length) i) n p) !=T.contains (i:Int))=_
 congr 2
 refine List.map_congr_left fun n hn=>?_
 rw[sY (j:=gs.length) (i:=i) (by omega) (Nat.le_refl _) (by rw[hw];exact hg.2.2 n hn)]
end
theorem wq{m:Nat}:∀{ins:List (Str × Nat)},(∀x∈ins,x.2=m)→lS ins=m*ins.length
 | [],_=>rfl
 | x ::l,h=>by
   have ih:=wq (ins:=l) fun y hy=>h y (List.mem_cons_of_mem _ hy)
   have:=h x List.mem_cons_self
   unfold lS at ih ⊢
   rw[List.map_cons,List.sum_cons,List.length_cons,ih,this,Nat.mul_succ,Nat.add_comm]
section
variable {ins:List (Str × Nat)} {gs:List Gt} {bits:List M} {T bad:List Int} {p m:Nat}
end
noncomputable def LP(m:Nat)(ins:List (Str × Nat)):List (Str × Nat):=ins.map fun x=>(x.1,m)
noncomputable def La(m:Nat)(g:Gt)(k:Nat):Gt:=(g.1,g.2.1.map (fun w=>m*w+k),g.2.2)
noncomputable def LM(m:Nat)(gs:List Gt):List Gt:=gs.flatMap fun g=>(List.range m).map (La m g)
noncomputable def L7(m:Nat)(os:List (Str × List Nat)):List (Str × List Nat):=os.map fun x=>(x.1,(List.range m).map fun k=>m*x.2.getD 0 0+k)
noncomputable def shr(m k n:Nat)(T:List Int):List Int:=((List.range n).filter fun i=>T.contains ((m*i+k:Nat):Int)).map fun(i:Nat)=>(i:Int)
section
variable {ins:List (Str × Nat)} {gs:List Gt} {os:List (Str × List Nat)} {bits:List M} {T bad:List Int} {p m:Nat}
end
end MT
end
section
set_option Elab.async false
set_option linter.all false
set_option maxRecDepth 100000
set_option maxHeartbeats 4000000
namespace K23
open PySem PySem.Spec PyProof.Rows L2 L3
noncomputable def top(i:Nat):Stmt:=PySem.Challenge.pw_bearfaults_k23_surest_of_turning_gates.main.body.getD i (.Pass ⟨0,0,0,0⟩)
structure Tp (K:PySem.W.Frag) (mg:Str→Option Value) (cl:Nat→Addr):Prop where
 z_enumerate:mg (Str.ofString "enumerate")=none
 z_range:mg (Str.ofString "range")=none
 z_len:mg (Str.ofString "len")=none
 z_tuple:mg (Str.ofString "tuple")=none
 z_reversed:mg (Str.ofString "reversed")=none
 z_all:mg (Str.ofString "all")=none
 z_zip:mg (Str.ofString "zip")=none
 z_any:mg (Str.ofString "any")=none
 z_min:mg (Str.ofString "min")=none
 z_sorted:mg (Str.ofString "sorted")=none
 z_list:mg (Str.ofString "list")=none
 z_int:mg (Str.ofString "int")=none
 z_isinstance:mg (Str.ofString "isinstance")=none
 C_Bench:tK K (cl 0)
 N_Bench_net:cO K (cl 0) (Str.ofString "net")
 N_Bench_many_inputs:cO K (cl 0) (Str.ofString "many_inputs")
 N_Bench_full:cO K (cl 0) (Str.ofString "full")
 N_Bench_in_masks:cO K (cl 0) (Str.ofString "in_masks")
 M_Bench:mg (Str.ofString "Bench")=some (.ref (cl 0))
 C_Trial:tK K (cl 1)
 N_Trial_bench:cO K (cl 1) (Str.ofString "bench")
 N_Trial_plain:cO K (cl 1) (Str.ofString "plain")
 N_Trial_unsure:cO K (cl 1) (Str.ofString "unsure")
 M_Trial:mg (Str.ofString "Trial")=some (.ref (cl 1))
noncomputable abbrev ee:Stmt:=top 2
noncomputable abbrev rA:List Str:=[(Str.ofString "masks")]
noncomputable def wV:{b:List Stmt // aj ee=b}:=by
 have e:aj ee=aj ee:=rfl
 conv at e=>rhs;whnf
 exact⟨_,e⟩
noncomputable def pZ:{b:Scope // ae ee=b}:=by
 have e:ae ee=ae ee:=rfl
 conv at e=>rhs;whnf
 exact⟨_,e⟩
theorem yD:bf rA [(Str.ofString "masks")] pZ.1:=⟨rfl,rfl,rfl,by decide+kernel,rfl,by decide+kernel,by decide+kernel⟩
noncomputable def rB:FS:=(fM (e2 BX (e2 BX (e2 Dv (e2 cR (ag 0) (eC (.int 0))) (e2 cR (ag 0) (eC (.int 1)))) (e2 Dv (e2 cR (ag 0) (eC (.int 0))) (e2 cR (ag 0) (eC (.int 2))))) (e2 Dv (e2 cR (ag 0) (eC (.int 1))) (e2 cR (ag 0) (eC (.int 2))))))
noncomputable def eM:List D→R D:=oz rA rB
theorem yZ{P:Program}{w:World}{K:PySem.W.Frag}{mg:Str→Option Value}{base:Heap}{cl:Nat→Addr}(T:Tp K mg cl)(h:Def K mg (Str.ofString "vote_of") ee):Callee P w K mg base 1 (Str.ofString "vote_of") 1 eM:=by
 obtain⟨f,fd,F,hm⟩:=h
 exact⟨f,fd,_,dJ (k:=0) wV.2 pZ.2 F yD (fun cdv A outer s H E hr=>(bL (cv (aA va (aA va (aA vD (aJ (aa 0) af (fun _ _=>rfl)) (aJ (aa 0) af (fun _ _=>rfl))) (aA vD (aJ (aa 0) af (fun _ _=>rfl)) (aJ (aa 0) af (fun _ _=>rfl)))) (aA vD (aJ (aa 0) af (fun _ _=>rfl)) (aJ (aa 0) af (fun _ _=>rfl))))))),hm,F.kp,F.binds fun _ _ _ _ _ _ us hl=>match us,hl with | [_],_=>rfl⟩
noncomputable abbrev cW:Stmt:=top 3
noncomputable abbrev jT:List Str:=[(Str.ofString "kind"),(Str.ofString "masks"),(Str.ofString "full")]
noncomputable def sW:{b:List Stmt // aj cW=b}:=by
 have e:aj cW=aj cW:=rfl
 conv at e=>rhs;whnf
 exact⟨_,e⟩
noncomputable def my:{b:Scope // ae cW=b}:=by
 have e:ae cW=ae cW:=rfl
 conv at e=>rhs;whnf
 exact⟨_,e⟩
theorem t4:bf jT [(Str.ofString "kind"),(Str.ofString "masks"),(Str.ofString "full")] my.1:=⟨rfl,rfl,rfl,by decide+kernel,rfl,by decide+kernel,by decide+kernel⟩
noncomputable def nK:FS:=(gg (tj (b2 mB (ag 0) (eC (.str (Str.ofString "not")))) (fM (e2 xi (ag 2) (e2 cR (ag 1) (eC (.int 0))))) lz) (gg (tj (b2 mB (ag 0) (eC (.str (Str.ofString "and")))) (fM (e2 Dv (e2 cR (ag 1) (eC (.int 0))) (e2 cR (ag 1) (eC (.int 1))))) lz) (gg (tj (b2 mB (ag 0) (eC (.str (Str.ofString "or")))) (fM (e2 BX (e2 cR (ag 1) (eC (.int 0))) (e2 cR (ag 1) (eC (.int 1))))) lz) (gg (tj (b2 mB (ag 0) (eC (.str (Str.ofString "xor")))) (fM (e2 xi (e2 cR (ag 1) (eC (.int 0))) (e2 cR (ag 1) (eC (.int 1))))) lz) (fM (aO eM (aw (ag 1) bb)))))))
noncomputable def eN:List D→R D:=oz jT nK
theorem uM{P:Program}{w:World}{K:PySem.W.Frag}{mg:Str→Option Value}{base:Heap}{cl:Nat→Addr}(T:Tp K mg cl)(h:Def K mg (Str.ofString "gate_mask") cW)(C_vote_of:Callee P w K mg base 1 (Str.ofString "vote_of") 1 eM):Callee P w K mg base 2 (Str.ofString "gate_mask") 3 eN:=by
 obtain⟨f,fd,F,hm⟩:=h
 exact⟨f,fd,_,dJ (k:=1) sW.2 my.2 F t4 (fun cdv A outer s H E hr=>(dg (kF (cw (oV hr.units) (aa 0) cX (cJ _)) (bL (cv (aA qr (aa 2) (aJ (aa 1) af (fun _ _=>rfl))))) i7) (dg (kF (cw (oV hr.units) (aa 0) cX (cJ _)) (bL (cv (aA vD (aJ (aa 1) af (fun _ _=>rfl)) (aJ (aa 1) af (fun _ _=>rfl))))) i7) (dg (kF (cw (oV hr.units) (aa 0) cX (cJ _)) (bL (cv (aA va (aJ (aa 1) af (fun _ _=>rfl)) (aJ (aa 1) af (fun _ _=>rfl))))) i7) (dg (kF (cw (oV hr.units) (aa 0) cX (cJ _)) (bL (cv (aA qr (aJ (aa 1) af (fun _ _=>rfl)) (aJ (aa 1) af (fun _ _=>rfl))))) i7) (bL (cv (cV C_vote_of hr (by decide) rfl (ah (aa 1) av) (bq dG))))))))),hm,F.kp,F.binds fun _ _ _ _ _ _ us hl=>match us,hl with | [_,_,_],_=>rfl⟩
noncomputable abbrev bF:Stmt:=top 4
noncomputable abbrev eI:List Str:=[(Str.ofString "ins"),(Str.ofString "in_masks"),(Str.ofString "full"),(Str.ofString "bad"),(Str.ofString "wires"),(Str.ofString "place"),(Str.ofString "mask"),(Str.ofString "figure")]
noncomputable def m3:{b:List Stmt // aj bF=b}:=by
 have e:aj bF=aj bF:=rfl
 conv at e=>rhs;whnf
 exact⟨_,e⟩
noncomputable def iW:{b:Scope // ae bF=b}:=by
 have e:ae bF=ae bF:=rfl
 conv at e=>rhs;whnf
 exact⟨_,e⟩
theorem dF:bf eI [(Str.ofString "ins"),(Str.ofString "in_masks"),(Str.ofString "full"),(Str.ofString "bad")] iW.1:=⟨rfl,rfl,rfl,by decide+kernel,rfl,by decide+kernel,by decide+kernel⟩
noncomputable def fk:FZ:=(mG 4 (xT (xh (b2 tV (aO eu (aw (ag 4) bb)) (ag 3)) (e2 xi (ag 2) (ag 6)) (ag 6))))
noncomputable def iy:FZ:=(iq (iP (j2 (e2 cR (e2 cR (ag 0) (ag 5)) (eC (.int 1))))) (iV 7) fk)
noncomputable def f9:FZ:=(bu (cC 4 (m4 (fD bb))) (bu (iq (iP (xu (ag 1))) (ve 2 (pG (iV 5) (pG (iV 6) v8))) iy) (gz (cj 4))))
noncomputable def cD:List V3→aF→R3 V3:=l6 eI f9
noncomputable def mJ:List V3→aF→R3 V3:=mF eI f9
theorem n9{P:Program}{w:World}{K:PySem.W.Frag}{mg:Str→Option Value}{base:Heap}{cl:Nat→Addr}(T:Tp K mg cl)(h:Def K mg (Str.ofString "in_wire_masks") bF):aH P w K mg base cl 1 (Str.ofString "in_wire_masks") 4 cD:=by
 obtain⟨f,fd,F,hm⟩:=h
 exact⟨f,fd,_,bW (k:=0) m3.2 iW.2 F dF (fun cdv A outer s H E hr=>(au (bj dF.nd rfl (Or.inl rfl) (g7 (dO av))) (au (d9 PassesOwn.never rfl (cK (vB (aa 1) rfl T.z_enumerate)) (jz rfl (bZ (aU dF.nd rfl (Or.inl rfl)) (bZ (aU dF.nd rfl (Or.inl rfl)) ie))) (aG (d9 PassesOwn.never rfl (cK (iI (aJ (aJ (aa 0) (aa 5) (fun _ _=>rfl)) af (fun _ _=>rfl)) rfl T.z_range)) (aU dF.nd rfl (Or.inl rfl)) (aG (lK rfl (Or.inl rfl) (fU (wj (cw GD (bo fv rfl T.z_len PySem.boot_len (ah (aa 4) av)) (aa 3) (by with_unfolding_all rfl)) (aA qr (aa 2) (aa 6)) (aa 6)))))))) (aG (cU (bc 4)))))),hm,F.kp,F.binds fun _ _ _ _ _ _ us hl=>match us,hl with | [_,_,_,_],_=>rfl⟩
noncomputable abbrev dA:Stmt:=top 5
noncomputable abbrev lQ:List Str:=[(Str.ofString "wires"),(Str.ofString "numbers")]
noncomputable def uI:{b:List Stmt // aj dA=b}:=by
 have e:aj dA=aj dA:=rfl
 conv at e=>rhs;whnf
 exact⟨_,e⟩
noncomputable def j4:{b:Scope // ae dA=b}:=by
 have e:ae dA=ae dA:=rfl
 conv at e=>rhs;whnf
 exact⟨_,e⟩
theorem vJ:bf lQ [(Str.ofString "wires"),(Str.ofString "numbers")] j4.1:=⟨rfl,rfl,rfl,by decide+kernel,rfl,by decide+kernel,by decide+kernel⟩
noncomputable def pW:FS:=(fM (aO gm (aw (eNew (et (c0 (ag 1)) (bg 0) jV (e2 cR (ag 1) (ag 0)) [(Str.ofString "number")] [0])) bb)))
noncomputable def d3:List D→R D:=oz lQ pW
theorem vn{P:Program}{w:World}{K:PySem.W.Frag}{mg:Str→Option Value}{base:Heap}{cl:Nat→Addr}(T:Tp K mg cl)(h:Def K mg (Str.ofString "masks_at") dA):Callee P w K mg base 1 (Str.ofString "masks_at") 2 d3:=by
 obtain⟨f,fd,F,hm⟩:=h
 exact⟨f,fd,_,dJ (k:=0) uI.2 j4.2 F vJ (fun cdv A outer s H E hr=>(bL (cv (gR xk rfl T.z_tuple PyProof.Rows.boot_tuple (ah (dy (dn rfl (bM.of (own:=[(Str.ofString "number")]) (kp:=[0]) (kn:=[(Str.ofString "wires")]) (sc:=j4.1) (N:=lQ) rfl rfl (by decide+kernel)) (bG (aa 1)) (fun _ _ _=>(bz (show List.Nodup [(Str.ofString "number"),(Str.ofString "wires")] from by decide+kernel) rfl (Or.inl rfl))) (fun _ _ _=>dN) (fun _ _ _=>(aJ (aa 1) (aa 0) (fun _ _=>rfl))))) av))))),hm,F.kp,F.binds fun _ _ _ _ _ _ us hl=>match us,hl with | [_,_],_=>rfl⟩
noncomputable abbrev cy:Stmt:=top 6
noncomputable abbrev gy:List Str:=[(Str.ofString "net"),(Str.ofString "in_masks"),(Str.ofString "full"),(Str.ofString "turned"),(Str.ofString "bad"),(Str.ofString "wires"),(Str.ofString "place"),(Str.ofString "gate"),(Str.ofString "mask")]
noncomputable def qm:{b:List Stmt // aj cy=b}:=by
 have e:aj cy=aj cy:=rfl
 conv at e=>rhs;whnf
 exact⟨_,e⟩
noncomputable def kR:{b:Scope // ae cy=b}:=by
 have e:ae cy=ae cy:=rfl
 conv at e=>rhs;whnf
 exact⟨_,e⟩
theorem e_:bf gy [(Str.ofString "net"),(Str.ofString "in_masks"),(Str.ofString "full"),(Str.ofString "turned"),(Str.ofString "bad")] kR.1:=⟨rfl,rfl,rfl,by decide+kernel,rfl,by decide+kernel,by decide+kernel⟩
noncomputable def gY:FZ:=(bu (cC 8 (xT (aO eN (aw (e2 cR (ag 7) (eC (.int 0))) (aw (aO d3 (aw (ag 5) (aw (e2 cR (ag 7) (eC (.int 1))) bb))) (aw (ag 2) bb)))))) (mG 5 (xP (xh (b2 tV (ag 6) (ag 3)) (e2 xi (ag 2) (ag 8)) (ag 8)))))
noncomputable def jA:FZ:=(bu (cC 5 (df cD (aC (xP (e2 cR (ag 0) (eC (.int 0)))) (aC (xP (ag 1)) (aC (xP (ag 2)) (aC (xP (ag 4)) cN)))))) (bu (iq (iP (gP (e2 cR (ag 0) (eC (.int 1))))) (ve 2 (pG (iV 6) (pG (iV 7) v8))) gY) (gz (cj 5))))
noncomputable def kO:List V3→aF→R3 V3:=l6 gy jA
noncomputable def eF:List V3→aF→R3 V3:=mF gy jA
theorem rV{P:Program}{w:World}{K:PySem.W.Frag}{mg:Str→Option Value}{base:Heap}{cl:Nat→Addr}(T:Tp K mg cl)(h:Def K mg (Str.ofString "wire_masks") cy)(C_masks_at:Callee P w K mg base 1 (Str.ofString "masks_at") 2 d3)(C_gate_mask:Callee P w K mg base 2 (Str.ofString "gate_mask") 3 eN)(XK_in_wire_masks:aH P w K mg base cl 1 (Str.ofString "in_wire_masks") 4 cD):aH P w K mg base cl 3 (Str.ofString "wire_masks") 5 kO:=by
 obtain⟨f,fd,F,hm⟩:=h
 exact⟨f,fd,_,bW (k:=2) qm.2 kR.2 F e_ (fun cdv A outer s H E hr=>(au (bj e_.nd rfl (Or.inl rfl) (bR XK_in_wire_masks hr (by decide) rfl (ak (ai (aJ (aa 0) af (fun _ _=>rfl))) (ak (ai (aa 1)) (ak (ai (aa 2)) (ak (ai (aa 4)) aR)))) (ao (ao (ao (ao ba)))))) (au (d9 PassesOwn.never rfl (cK (ku (aJ (aa 0) af (fun _ _=>rfl)) rfl T.z_enumerate)) (jz rfl (bZ (aU e_.nd rfl (Or.inl rfl)) (bZ (aU e_.nd rfl (Or.inl rfl)) ie))) (au (bj e_.nd rfl (Or.inl rfl) (fU (cV C_gate_mask hr (by decide) rfl (ah (aJ (aa 7) af (fun _ _=>rfl)) (ah (cV C_masks_at hr (by decide) rfl (ah (aa 5) (ah (aJ (aa 7) af (fun _ _=>rfl)) av)) (bq (bq dG))) (ah (aa 2) av))) (bq (bq (bq dG)))))) (aG (lK rfl (Or.inl rfl) (ai (wj (cw GD (aa 6) (aa 3) (by with_unfolding_all rfl)) (aA qr (aa 2) (aa 8)) (aa 8))))))) (aG (cU (bc 5)))))),hm,F.kp,F.binds fun _ _ _ _ _ _ us hl=>match us,hl with | [_,_,_,_,_],_=>rfl⟩
noncomputable abbrev cZ:Stmt:=top 7
noncomputable abbrev f6:List Str:=[(Str.ofString "net"),(Str.ofString "wires")]
noncomputable def rY:{b:List Stmt // aj cZ=b}:=by
 have e:aj cZ=aj cZ:=rfl
 conv at e=>rhs;whnf
 exact⟨_,e⟩
noncomputable def ju:{b:Scope // ae cZ=b}:=by
 have e:ae cZ=ae cZ:=rfl
 conv at e=>rhs;whnf
 exact⟨_,e⟩
theorem tQ:bf f6 [(Str.ofString "net"),(Str.ofString "wires")] ju.1:=⟨rfl,rfl,rfl,by decide+kernel,rfl,by decide+kernel,by decide+kernel⟩
noncomputable def j0:FZ:=(gz (m4 (et (c0 (e2 cR (ag 0) (eC (.int 2)))) (ip 2 (c7 (bg 0) (c7 (bg 1) g_))) jV (aO d3 (aw (ag 2) (aw (ag 1) bb))) [(Str.ofString "name"),(Str.ofString "numbers")] [1])))
noncomputable def l8:List V3→aF→R3 V3:=l6 f6 j0
noncomputable def eY:List V3→aF→R3 V3:=mF f6 j0
theorem tP{P:Program}{w:World}{K:PySem.W.Frag}{mg:Str→Option Value}{base:Heap}{cl:Nat→Addr}(T:Tp K mg cl)(h:Def K mg (Str.ofString "out_masks") cZ)(C_masks_at:Callee P w K mg base 1 (Str.ofString "masks_at") 2 d3):aH P w K mg base cl 2 (Str.ofString "out_masks") 2 l8:=by
 obtain⟨f,fd,F,hm⟩:=h
 exact⟨f,fd,_,bW (k:=1) rY.2 ju.2 F tQ (fun cdv A outer s H E hr=>(aG (cU (g7 (dn rfl (bM.of (own:=[(Str.ofString "name"),(Str.ofString "numbers")]) (kp:=[1]) (kn:=[(Str.ofString "wires")]) (sc:=ju.1) (N:=f6) rfl rfl (by decide+kernel)) (bG (aJ (aa 0) af (fun _ _=>rfl))) (fun _ _ _=>(pX rfl (fH (bz (show List.Nodup [(Str.ofString "name"),(Str.ofString "numbers"),(Str.ofString "wires")] from by decide+kernel) rfl (Or.inl rfl)) (fH (bz (show List.Nodup [(Str.ofString "name"),(Str.ofString "numbers"),(Str.ofString "wires")] from by decide+kernel) rfl (Or.inl rfl)) mP)))) (fun _ _ _=>dN) (fun _ _ _=>(cV C_masks_at hr (by decide) rfl (ah (aa 2) (ah (aa 1) av)) (bq (bq dG))))))))),hm,F.kp,F.binds fun _ _ _ _ _ _ us hl=>match us,hl with | [_,_],_=>rfl⟩
noncomputable abbrev en:Stmt:=top 8
noncomputable abbrev kA:List Str:=[(Str.ofString "masks"),(Str.ofString "full"),(Str.ofString "ones")]
noncomputable def wO:{b:List Stmt // aj en=b}:=by
 have e:aj en=aj en:=rfl
 conv at e=>rhs;whnf
 exact⟨_,e⟩
noncomputable def pN:{b:Scope // ae en=b}:=by
 have e:ae en=ae en:=rfl
 conv at e=>rhs;whnf
 exact⟨_,e⟩
theorem qL:bf kA [(Str.ofString "masks"),(Str.ofString "full")] pN.1:=⟨rfl,rfl,rfl,by decide+kernel,rfl,by decide+kernel,by decide+kernel⟩
noncomputable def rE:FS:=(gg (tj (b2 mB (aO eu (aw (ag 0) bb)) (eC (.int 2))) (fM (gh (aw (e2 xi (ag 1) (e2 BX (e2 cR (ag 0) (eC (.int 0))) (e2 cR (ag 0) (eC (.int 1))))) (aw (e2 Dv (e2 cR (ag 0) (eC (.int 0))) (e2 cR (ag 0) (eC (.int 1)))) bb)))) lz) (gg (lC 2 (xh (b2 mB (aO eu (aw (ag 0) bb)) (eC (.int 1))) (e2 cR (ag 0) (eC (.int 0))) (aO eM (aw (ag 0) bb)))) (fM (gh (aw (e2 xi (ag 1) (ag 2)) (aw (ag 2) bb))))))
noncomputable def gE:List D→R D:=oz kA rE
theorem yF{P:Program}{w:World}{K:PySem.W.Frag}{mg:Str→Option Value}{base:Heap}{cl:Nat→Addr}(T:Tp K mg cl)(h:Def K mg (Str.ofString "reading") en)(C_vote_of:Callee P w K mg base 1 (Str.ofString "vote_of") 1 eM):Callee P w K mg base 2 (Str.ofString "reading") 2 gE:=by
 obtain⟨f,fd,F,hm⟩:=h
 exact⟨f,fd,_,dJ (k:=1) wO.2 pN.2 F qL (fun cdv A outer s H E hr=>(dg (kF (cw (oV hr.units) (bo fv rfl T.z_len PySem.boot_len (ah (aa 0) av)) af (cJ _)) (bL (cv (ef (ah (aA qr (aa 1) (aA va (aJ (aa 0) af (fun _ _=>rfl)) (aJ (aa 0) af (fun _ _=>rfl)))) (ah (aA vD (aJ (aa 0) af (fun _ _=>rfl)) (aJ (aa 0) af (fun _ _=>rfl))) av))))) i7) (dg (pK qL.nd rfl (Or.inl rfl) (wj (cw (oV hr.units) (bo fv rfl T.z_len PySem.boot_len (ah (aa 0) av)) af (cJ _)) (aJ (aa 0) af (fun _ _=>rfl)) (cV C_vote_of hr (by decide) rfl (ah (aa 0) av) (bq dG)))) (bL (cv (ef (ah (aA qr (aa 1) (aa 2)) (ah (aa 2) av)))))))),hm,F.kp,F.binds fun _ _ _ _ _ _ us hl=>match us,hl with | [_,_],_=>rfl⟩
noncomputable abbrev cz:Stmt:=top 9
noncomputable abbrev gA:List Str:=[(Str.ofString "count"),(Str.ofString "inputs"),(Str.ofString "place"),(Str.ofString "longer"),(Str.ofString "bits")]
noncomputable def qF:{b:List Stmt // aj cz=b}:=by
 have e:aj cz=aj cz:=rfl
 conv at e=>rhs;whnf
 exact⟨_,e⟩
noncomputable def kW:{b:Scope // ae cz=b}:=by
 have e:ae cz=ae cz:=rfl
 conv at e=>rhs;whnf
 exact⟨_,e⟩
theorem ei:bf gA [(Str.ofString "count")] kW.1:=⟨rfl,rfl,rfl,by decide+kernel,rfl,by decide+kernel,by decide+kernel⟩
noncomputable def km:FZ:=(bu (mG 3 (xP (e2 fw (ag 4) (gh (aw (eC (.int 0)) bb))))) (mG 3 (xP (e2 fw (ag 4) (gh (aw (eC (.int 1)) bb))))))
noncomputable def jY:FZ:=(zg 1 (bu (cC 3 (m4 (fD bb))) (bu (iq (iP (c0 (ag 1))) (iV 4) km) (cC 1 (cj 3)))))
noncomputable def jn:FZ:=(bu (cC 1 (m4 (fD (aw (gh bb) bb)))) (bu (iq (iP (j2 (ag 0))) (iV 2) jY) (gz (cj 1))))
noncomputable def kQ:List V3→aF→R3 V3:=l6 gA jn
noncomputable def eD:List V3→aF→R3 V3:=mF gA jn
theorem sJ{P:Program}{w:World}{K:PySem.W.Frag}{mg:Str→Option Value}{base:Heap}{cl:Nat→Addr}(T:Tp K mg cl)(h:Def K mg (Str.ofString "all_inputs") cz):aH P w K mg base cl 1 (Str.ofString "all_inputs") 1 kQ:=by
 obtain⟨f,fd,F,hm⟩:=h
 exact⟨f,fd,_,bW (k:=0) qF.2 kW.2 F ei (fun cdv A outer s H E hr=>(au (bj ei.nd rfl (Or.inl rfl) (g7 (dO (ah (ef av) av)))) (au (d9 PassesOwn.never rfl (cK (iI (aa 0) rfl T.z_range)) (aU ei.nd rfl (Or.inl rfl)) (xB 1 (au (bj ei.nd rfl (Or.inl rfl) (g7 (dO av))) (au (d9 PassesOwn.never rfl (cK (bG (aa 1))) (aU ei.nd rfl (Or.inl rfl)) (au (lK rfl (Or.inl rfl) (ai (aA il (aa 4) (ef (ah af av))))) (aG (lK rfl (Or.inl rfl) (ai (aA il (aa 4) (ef (ah af av)))))))) (aG (bj ei.nd rfl (Or.inl rfl) (bc 3))))))) (aG (cU (bc 1)))))),hm,F.kp,F.binds fun _ _ _ _ _ _ us hl=>match us,hl with | [_],_=>rfl⟩
noncomputable abbrev eg:Stmt:=top 10
noncomputable abbrev nu:List Str:=[(Str.ofString "bits"),(Str.ofString "mask"),(Str.ofString "bit")]
noncomputable def vU:{b:List Stmt // aj eg=b}:=by
 have e:aj eg=aj eg:=rfl
 conv at e=>rhs;whnf
 exact⟨_,e⟩
noncomputable def qh:{b:Scope // ae eg=b}:=by
 have e:ae eg=ae eg:=rfl
 conv at e=>rhs;whnf
 exact⟨_,e⟩
theorem kz:bf nu [(Str.ofString "bits")] qh.1:=⟨rfl,rfl,rfl,by decide+kernel,rfl,by decide+kernel,by decide+kernel⟩
noncomputable def ko:FS:=(lC 1 (e2 fZ (e2 kJ (ag 1) (eC (.int 2))) (ag 2)))
noncomputable def q8:FS:=(gg (lC 1 (eC (.int 0))) (gg (wK (Ej (ag 0)) (bg 2) ko) (fM (ag 1))))
noncomputable def eP:List D→R D:=oz nu q8
theorem yq{P:Program}{w:World}{K:PySem.W.Frag}{mg:Str→Option Value}{base:Heap}{cl:Nat→Addr}(T:Tp K mg cl)(h:Def K mg (Str.ofString "mask_of") eg):Callee P w K mg base 1 (Str.ofString "mask_of") 1 eP:=by
 obtain⟨f,fd,F,hm⟩:=h
 exact⟨f,fd,_,dJ (k:=0) vU.2 qh.2 F kz (fun cdv A outer s H E hr=>(dg (pK kz.nd rfl (Or.inl rfl) af) (dg (qb PassesOwn.never rfl (AG (aa 0) rfl T.z_reversed) (bz kz.nd rfl (Or.inl rfl)) (bL (pK kz.nd rfl (Or.inl rfl) (aA iA (aA rz (aa 1) af) (aa 2))))) (bL (cv (aa 1)))))),hm,F.kp,F.binds fun _ _ _ _ _ _ us hl=>match us,hl with | [_],_=>rfl⟩
noncomputable abbrev eh:Stmt:=top 11
noncomputable abbrev mO:List Str:=[(Str.ofString "inputs"),(Str.ofString "place")]
noncomputable def wW:{b:List Stmt // aj eh=b}:=by
 have e:aj eh=aj eh:=rfl
 conv at e=>rhs;whnf
 exact⟨_,e⟩
noncomputable def lh:{b:Scope // ae eh=b}:=by
 have e:ae eh=ae eh:=rfl
 conv at e=>rhs;whnf
 exact⟨_,e⟩
theorem yG:bf mO [(Str.ofString "inputs"),(Str.ofString "place")] lh.1:=⟨rfl,rfl,rfl,by decide+kernel,rfl,by decide+kernel,by decide+kernel⟩
noncomputable def rK:FS:=(fM (aO eP (aw (eNew (et (c0 (ag 0)) (bg 0) jV (e2 cR (ag 0) (ag 1)) [(Str.ofString "bits")] [1])) bb)))
noncomputable def gG:List D→R D:=oz mO rK
theorem yA{P:Program}{w:World}{K:PySem.W.Frag}{mg:Str→Option Value}{base:Heap}{cl:Nat→Addr}(T:Tp K mg cl)(h:Def K mg (Str.ofString "in_mask") eh)(C_mask_of:Callee P w K mg base 1 (Str.ofString "mask_of") 1 eP):Callee P w K mg base 2 (Str.ofString "in_mask") 2 gG:=by
 obtain⟨f,fd,F,hm⟩:=h
 exact⟨f,fd,_,dJ (k:=1) wW.2 lh.2 F yG (fun cdv A outer s H E hr=>(bL (cv (cV C_mask_of hr (by decide) rfl (ah (dy (dn rfl (bM.of (own:=[(Str.ofString "bits")]) (kp:=[1]) (kn:=[(Str.ofString "place")]) (sc:=lh.1) (N:=mO) rfl rfl (by decide+kernel)) (bG (aa 0)) (fun _ _ _=>(bz (show List.Nodup [(Str.ofString "bits"),(Str.ofString "place")] from by decide+kernel) rfl (Or.inl rfl))) (fun _ _ _=>dN) (fun _ _ _=>(aJ (aa 0) (aa 1) (fun _ _=>rfl))))) av) (bq dG))))),hm,F.kp,F.binds fun _ _ _ _ _ _ us hl=>match us,hl with | [_,_],_=>rfl⟩
noncomputable abbrev er:Stmt:=top 14
noncomputable abbrev jc:List Str:=[(Str.ofString "places"),(Str.ofString "size"),(Str.ofString "found"),(Str.ofString "ahead"),(Str.ofString "place"),(Str.ofString "rest")]
noncomputable def vZ:{b:List Stmt // aj er=b}:=by
 have e:aj er=aj er:=rfl
 conv at e=>rhs;whnf
 exact⟨_,e⟩
noncomputable def oR:{b:Scope // ae er=b}:=by
 have e:ae er=ae er:=rfl
 conv at e=>rhs;whnf
 exact⟨_,e⟩
theorem jd:bf jc [(Str.ofString "places"),(Str.ofString "size")] oR.1:=⟨rfl,rfl,rfl,by decide+kernel,rfl,by decide+kernel,by decide+kernel⟩
noncomputable def kq(self:List D→R D):FS:=(nV 2 (e2 fw (gh (aw (ag 4) bb)) (ag 5)))
noncomputable def j9(self:List D→R D):FS:=(wK (c0 (aO self (aw (w9 (ag 0) (g9 (e2 fw (ag 3) (eC (.int 1)))) iU) (aw (e2 lJ (ag 1) (eC (.int 1))) bb)))) (bg 5) (kq self))
noncomputable def i3(self:List D→R D):FS:=(gg (tj (b2 mB (ag 1) (eC (.int 0))) (fM (eNew (fD (aw (gh bb) bb)))) lz) (gg (m_ 2 (fD bb)) (gg (wK (gP (ag 0)) (ip 2 (c7 (bg 3) (c7 (bg 4) g_))) (j9 self)) (pC 2 (fM (ag 2))))))
noncomputable def du:Nat→List D→R D
 | 0=>fun _=> .no
 | n+1=>oz jc (i3 (du n))
theorem qZ{P:Program}{w:World}{K:PySem.W.Frag}{mg:Str→Option Value}{base:Heap}{cl:Nat→Addr}(T:Tp K mg cl)(h:Def K mg (Str.ofString "choices") er):∀n,Callee P w K mg base (1+n) (Str.ofString "choices") 2 (du n)
 | 0=>by
   obtain⟨f,fd,F,hm⟩:=h
   exact⟨f,fd,[(Str.ofString "places"),(Str.ofString "size")],Hn,hm,F.kp,F.binds fun _ _ _ _ _ _ us hl=>match us,hl with | [_,_],_=>rfl⟩
 | n+1=>by
   have C_self:=qZ (P:=P) (w:=w) (K:=K) (mg:=mg) (base:=base) T h n
   obtain⟨f,fd,F,hm⟩:=h
   exact⟨f,fd,_,dJ (k:=1+n) vZ.2 oR.2 F jd (fun cdv A outer s H E hr=>(dg (kF (cw (oV hr.units) (aa 1) af (cJ _)) (bL (cv (dy (dO (ah (ef av) av))))) i7) (dg (Az jd.nd rfl (Or.inl rfl) (dO av)) (dg (qb PassesOwn.never rfl (ku (aa 0) rfl T.z_enumerate) (pX rfl (fH (bz jd.nd rfl (Or.inl rfl)) (fH (bz jd.nd rfl (Or.inl rfl)) mP))) (bL (qb PassesOwn.never rfl (bG (cV C_self hr (by omega) rfl (ah (tH (aa 0) (l5 (aA il (aa 3) af)) mC) (ah (aA pq (aa 1) af) av)) (bq (bq dG)))) (bz jd.nd rfl (Or.inl rfl)) (bL (zx rfl (Or.inl rfl) (aA il (ef (ah (aa 4) av)) (aa 5))))))) (zH 2 (bL (cv (aa 2)))))))),hm,F.kp,F.binds fun _ _ _ _ _ _ us hl=>match us,hl with | [_,_],_=>rfl⟩
noncomputable abbrev d_:Stmt:=top 17
noncomputable abbrev m7:List Str:=[(Str.ofString "places"),(Str.ofString "others")]
noncomputable def vP:{b:List Stmt // aj d_=b}:=by
 have e:aj d_=aj d_:=rfl
 conv at e=>rhs;whnf
 exact⟨_,e⟩
noncomputable def lH:{b:Scope // ae d_=b}:=by
 have e:ae d_=ae d_:=rfl
 conv at e=>rhs;whnf
 exact⟨_,e⟩
theorem yw:bf m7 [(Str.ofString "places"),(Str.ofString "others")] lH.1:=⟨rfl,rfl,rfl,by decide+kernel,rfl,by decide+kernel,by decide+kernel⟩
noncomputable def rq:FS:=(fM (aO Es (aw (eNew (et (c0 (ag 1)) (bg 0) jV (e2 tV (ag 0) (ag 1)) [(Str.ofString "place")] [0])) bb)))
noncomputable def fK:List D→R D:=oz m7 rq
theorem yI{P:Program}{w:World}{K:PySem.W.Frag}{mg:Str→Option Value}{base:Heap}{cl:Nat→Addr}(T:Tp K mg cl)(h:Def K mg (Str.ofString "has_all") d_):Callee P w K mg base 1 (Str.ofString "has_all") 2 fK:=by
 obtain⟨f,fd,F,hm⟩:=h
 exact⟨f,fd,_,dJ (k:=0) vP.2 lH.2 F yw (fun cdv A outer s H E hr=>(bL (cv (bo (Ic rfl) rfl T.z_all PyProof.Rows.boot_all (ah (dy (dn rfl (bM.of (own:=[(Str.ofString "place")]) (kp:=[0]) (kn:=[(Str.ofString "places")]) (sc:=lH.1) (N:=m7) rfl rfl (by decide+kernel)) (bG (aa 1)) (fun _ _ _=>(bz (show List.Nodup [(Str.ofString "place"),(Str.ofString "places")] from by decide+kernel) rfl (Or.inl rfl))) (fun _ _ _=>dN) (fun _ _ _=>(sQ GD (aa 0) (aa 1) (by with_unfolding_all rfl))))) av))))),hm,F.kp,F.binds fun _ _ _ _ _ _ us hl=>match us,hl with | [_,_],_=>rfl⟩
noncomputable abbrev aX:Stmt:=inClass (top 12) 0
noncomputable abbrev cB:List Str:=[(Str.ofString "self"),(Str.ofString "net"),(Str.ofString "inputs")]
noncomputable def lX:{b:List Stmt // aj aX=b}:=by
 have e:aj aX=aj aX:=rfl
 conv at e=>rhs;whnf
 exact⟨_,e⟩
noncomputable def dP:{b:Scope // ae aX=b}:=by
 have e:ae aX=ae aX:=rfl
 conv at e=>rhs;whnf
 exact⟨_,e⟩
theorem iY:bf cB [(Str.ofString "self"),(Str.ofString "net")] dP.1:=⟨rfl,rfl,rfl,by decide+kernel,rfl,by decide+kernel,by decide+kernel⟩
noncomputable def fO:FZ:=(bu (cC 2 (df eD (aC (xP (aO eu (aw (e2 cR (ag 1) (eC (.int 0))) bb))) cN))) (bu (tI 0 (Str.ofString "net") (cj 0) (xP (ag 1))) (bu (tI 0 (Str.ofString "many_inputs") (cj 0) (xP (aO eu (aw (ag 2) bb)))) (bu (tI 0 (Str.ofString "full") (cj 0) (xP (aO eP (aw (eNew (et (c0 (ag 2)) (bg 0) jV (eC (.int 1)) [(Str.ofString "bits")] [])) bb)))) (tI 0 (Str.ofString "in_masks") (cj 0) (xP (eNew (et (j2 (aO eu (aw (e2 cR (ag 1) (eC (.int 0))) bb))) (bg 0) jV (aO gG (aw (ag 1) (aw (ag 0) bb))) [(Str.ofString "place")] [2]))))))))
noncomputable def cn:List V3→aF→R3 V3:=l6 cB fO
noncomputable def yk:List V3→aF→R3 V3:=mF cB fO
theorem dt{P:Program}{w:World}{K:PySem.W.Frag}{mg:Str→Option Value}{base:Heap}{cl:Nat→Addr}(T:Tp K mg cl)(h:yH K (cl 0) (Str.ofString "__init__") (Str.ofString "Bench.__init__") aX)(C_mask_of:Callee P w K mg base 1 (Str.ofString "mask_of") 1 eP)(C_in_mask:Callee P w K mg base 2 (Str.ofString "in_mask") 2 gG)(XP_all_inputs:aH P w K mg base cl 1 (Str.ofString "all_inputs") 1 eD):pU P w K mg base cl 3 0 (Str.ofString "Bench") 1 cn:=by
 obtain⟨f,fd,F,hm⟩:=h
 exact⟨f,fd,_,hm,bW (k:=2) lX.2 dP.2 F iY (fun cdv A outer s H E hr=>(au (bj iY.nd rfl (Or.inr rfl) (bR XP_all_inputs hr (by decide) rfl (ak (ai (bo fv rfl T.z_len PySem.boot_len (ah (aJ (aa 1) af (fun _ _=>rfl)) av))) aR) (ao ba))) (au (lN T.C_Bench T.N_Bench_net (bc 0) (ai (aa 1))) (au (lN T.C_Bench T.N_Bench_many_inputs (bc 0) (ai (bo fv rfl T.z_len PySem.boot_len (ah (aa 2) av)))) (au (lN T.C_Bench T.N_Bench_full (bc 0) (ai (cV C_mask_of hr (by decide) rfl (ah (dy (dn rfl (bM.of (own:=[(Str.ofString "bits")]) (kp:=[]) (kn:=[]) (sc:=dP.1) (N:=cB) rfl rfl (by decide+kernel)) (bG (aa 2)) (fun _ _ _=>(bz (show List.Nodup [(Str.ofString "bits")] from by decide+kernel) rfl (Or.inl rfl))) (fun _ _ _=>dN) (fun _ _ _=>af))) av) (bq dG)))) (aG (lN T.C_Bench T.N_Bench_in_masks (bc 0) (ai (dy (dn rfl (bM.of (own:=[(Str.ofString "place")]) (kp:=[2]) (kn:=[(Str.ofString "inputs")]) (sc:=dP.1) (N:=cB) rfl rfl (by decide+kernel)) (iI (bo fv rfl T.z_len PySem.boot_len (ah (aJ (aa 1) af (fun _ _=>rfl)) av)) rfl T.z_range) (fun _ _ _=>(bz (show List.Nodup [(Str.ofString "place"),(Str.ofString "inputs")] from by decide+kernel) rfl (Or.inl rfl))) (fun _ _ _=>dN) (fun _ _ _=>(cV C_in_mask hr (by decide) rfl (ah (aa 1) (ah (aa 0) av)) (bq (bq dG)))))))))))))),T.M_Bench,F.binds fun _ _ _ _ _ _ us hl=>match us,hl with | [_,_],_=>rfl⟩
noncomputable abbrev br:Stmt:=inClass (top 12) 1
noncomputable abbrev fT:List Str:=[(Str.ofString "self"),(Str.ofString "turned"),(Str.ofString "bad")]
noncomputable def oU:{b:List Stmt // aj br=b}:=by
 have e:aj br=aj br:=rfl
 conv at e=>rhs;whnf
 exact⟨_,e⟩
noncomputable def j1:{b:Scope // ae br=b}:=by
 have e:ae br=ae br:=rfl
 conv at e=>rhs;whnf
 exact⟨_,e⟩
theorem qH:bf fT [(Str.ofString "self"),(Str.ofString "turned"),(Str.ofString "bad")] j1.1:=⟨rfl,rfl,rfl,by decide+kernel,rfl,by decide+kernel,by decide+kernel⟩
noncomputable def iR:FZ:=(gz (df eY (aC (pJ 0 (Str.ofString "net") (cj 0)) (aC (df eF (aC (pJ 0 (Str.ofString "net") (cj 0)) (aC (pJ 0 (Str.ofString "in_masks") (cj 0)) (aC (pJ 0 (Str.ofString "full") (cj 0)) (aC (xP (ag 1)) (aC (xP (ag 2)) cN)))))) cN))))
noncomputable def jX:List V3→aF→R3 V3:=l6 fT iR
noncomputable def dY:List V3→aF→R3 V3:=mF fT iR
theorem eE{P:Program}{w:World}{K:PySem.W.Frag}{mg:Str→Option Value}{base:Heap}{cl:Nat→Addr}(T:Tp K mg cl)(h:tq K (cl 0) (Str.ofString "tells") (Str.ofString "Bench.tells") br)(XP_wire_masks:aH P w K mg base cl 3 (Str.ofString "wire_masks") 5 eF)(XP_out_masks:aH P w K mg base cl 2 (Str.ofString "out_masks") 2 eY):fW P w K mg base cl 4 0 (Str.ofString "tells") 2 jX:=by
 obtain⟨f,fd,F,hm⟩:=h
 exact⟨f,fd,_,T.C_Bench,hm,bW (k:=3) oU.2 j1.2 F qH (fun cdv A outer s H E hr=>(aG (cU (bR XP_out_masks hr (by decide) rfl (ak (jq T.C_Bench T.N_Bench_net (bc 0)) (ak (bR XP_wire_masks hr (by decide) rfl (ak (jq T.C_Bench T.N_Bench_net (bc 0)) (ak (jq T.C_Bench T.N_Bench_in_masks (bc 0)) (ak (jq T.C_Bench T.N_Bench_full (bc 0)) (ak (ai (aa 1)) (ak (ai (aa 2)) aR))))) (ao (ao (ao (ao (ao ba)))))) aR)) (ao (ao ba)))))),F.binds fun _ _ _ _ _ _ us hl=>match us,hl with | [_,_,_],_=>rfl⟩
noncomputable abbrev aV:Stmt:=inClass (top 12) 2
noncomputable abbrev dh:List Str:=[(Str.ofString "self"),(Str.ofString "turned")]
noncomputable def mi:{b:List Stmt // aj aV=b}:=by
 have e:aj aV=aj aV:=rfl
 conv at e=>rhs;whnf
 exact⟨_,e⟩
noncomputable def eZ:{b:Scope // ae aV=b}:=by
 have e:ae aV=ae aV:=rfl
 conv at e=>rhs;whnf
 exact⟨_,e⟩
theorem mH:bf dh [(Str.ofString "self"),(Str.ofString "turned")] eZ.1:=⟨rfl,rfl,rfl,by decide+kernel,rfl,by decide+kernel,by decide+kernel⟩
noncomputable def fJ:FZ:=(gz (k3 (uJ (rL 0 (Str.ofString "tells") dY (cj 0) (aC (xP (ag 1)) (aC (xP (gh bb)) cN)))) (iV 0) y8 (lg gE (aC (xP (ag 0)) (aC (pJ 0 (Str.ofString "full") (cj 1)) cN))) [(Str.ofString "masks")] [0]))
noncomputable def iE:List V3→aF→R3 V3:=l6 dh fJ
noncomputable def bN:List V3→aF→R3 V3:=mF dh fJ
theorem di{P:Program}{w:World}{K:PySem.W.Frag}{mg:Str→Option Value}{base:Heap}{cl:Nat→Addr}(T:Tp K mg cl)(h:tq K (cl 0) (Str.ofString "readings") (Str.ofString "Bench.readings") aV)(C_reading:Callee P w K mg base 2 (Str.ofString "reading") 2 gE)(XP_Bench_tells:fW P w K mg base cl 4 0 (Str.ofString "tells") 2 dY):fW P w K mg base cl 5 0 (Str.ofString "readings") 1 iE:=by
 obtain⟨f,fd,F,hm⟩:=h
 exact⟨f,fd,_,T.C_Bench,hm,bW (k:=4) mi.2 eZ.2 F mH (fun cdv A outer s H E hr=>(aG (cU (sL rfl (bM.of (own:=[(Str.ofString "masks")]) (kp:=[0]) (kn:=[(Str.ofString "self")]) (sc:=eZ.1) (N:=dh) rfl rfl (by decide+kernel)) (lW (og XP_Bench_tells hr (by decide) (bc 0) (ak (ai (aa 1)) (ak (ai (ef av)) aR)) (ao (ao ba)))) (fun _ _ _=>(aU (show List.Nodup [(Str.ofString "masks"),(Str.ofString "self")] from by decide+kernel) rfl (Or.inl rfl))) (fun _ _ _=>kD) (fun _ _ _=>(ug C_reading hr (by decide) rfl (ak (ai (aa 0)) (ak (jq T.C_Bench T.N_Bench_full (bc 1)) aR)) (ao (ao ba)))))))),F.binds fun _ _ _ _ _ _ us hl=>match us,hl with | [_,_],_=>rfl⟩
noncomputable abbrev aW:Stmt:=inClass (top 15) 0
noncomputable abbrev dj:List Str:=[(Str.ofString "self"),(Str.ofString "net")]
noncomputable def l9:{b:List Stmt // aj aW=b}:=by
 have e:aj aW=aj aW:=rfl
 conv at e=>rhs;whnf
 exact⟨_,e⟩
noncomputable def eU:{b:Scope // ae aW=b}:=by
 have e:ae aW=ae aW:=rfl
 conv at e=>rhs;whnf
 exact⟨_,e⟩
theorem ng:bf dj [(Str.ofString "self"),(Str.ofString "net")] eU.1:=⟨rfl,rfl,rfl,by decide+kernel,rfl,by decide+kernel,by decide+kernel⟩
noncomputable def fN:FZ:=(bu (tI 1 (Str.ofString "bench") (cj 0) (xN 0 cn (aC (xP (ag 1)) cN))) (bu (tI 1 (Str.ofString "plain") (cj 0) (rL 0 (Str.ofString "readings") bN (pJ 1 (Str.ofString "bench") (cj 0)) (aC (xP (gh bb)) cN))) (tI 1 (Str.ofString "unsure") (cj 0) (xP (eNew (et (gP (e2 cR (ag 1) (eC (.int 1)))) (ip 2 (c7 (bg 0) (c7 (bg 1) g_))) (kK (jR (e2 cR (ag 1) (eC (.int 2))))) (ag 0) [(Str.ofString "place"),(Str.ofString "gate")] []))))))
noncomputable def cm:List V3→aF→R3 V3:=l6 dj fN
noncomputable def xM:List V3→aF→R3 V3:=mF dj fN
theorem dq{P:Program}{w:World}{K:PySem.W.Frag}{mg:Str→Option Value}{base:Heap}{cl:Nat→Addr}(T:Tp K mg cl)(h:yH K (cl 1) (Str.ofString "__init__") (Str.ofString "Trial.__init__") aW)(XK_Bench___init__:pU P w K mg base cl 3 0 (Str.ofString "Bench") 1 cn)(XP_Bench_readings:fW P w K mg base cl 5 0 (Str.ofString "readings") 1 bN):pU P w K mg base cl 6 1 (Str.ofString "Trial") 1 cm:=by
 obtain⟨f,fd,F,hm⟩:=h
 exact⟨f,fd,_,hm,bW (k:=5) l9.2 eU.2 F ng (fun cdv A outer s H E hr=>(au (lN T.C_Trial T.N_Trial_bench (bc 0) (xo XK_Bench___init__ hr (by decide) rfl (ak (ai (aa 1)) aR) (ao ba))) (au (lN T.C_Trial T.N_Trial_plain (bc 0) (og XP_Bench_readings hr (by decide) (jq T.C_Trial T.N_Trial_bench (bc 0)) (ak (ai (ef av)) aR) (ao ba))) (aG (lN T.C_Trial T.N_Trial_unsure (bc 0) (ai (dy (dn rfl (bM.of (own:=[(Str.ofString "place"),(Str.ofString "gate")]) (kp:=[]) (kn:=[]) (sc:=eU.1) (N:=dj) rfl rfl (by decide+kernel)) (ku (aJ (aa 1) af (fun _ _=>rfl)) rfl T.z_enumerate) (fun _ _ _=>(pX rfl (fH (bz (show List.Nodup [(Str.ofString "place"),(Str.ofString "gate")] from by decide+kernel) rfl (Or.inl rfl)) (fH (bz (show List.Nodup [(Str.ofString "place"),(Str.ofString "gate")] from by decide+kernel) rfl (Or.inl rfl)) mP)))) (fun _ _ _=>(oY (oA (l3 (aJ (aa 1) af (fun _ _=>rfl)))))) (fun _ _ _=>(aa 0)))))))))),T.M_Trial,F.binds fun _ _ _ _ _ _ us hl=>match us,hl with | [_,_],_=>rfl⟩
noncomputable abbrev aQ:Stmt:=inClass (top 15) 1
noncomputable abbrev dQ:List Str:=[(Str.ofString "self"),(Str.ofString "turned"),(Str.ofString "level"),(Str.ofString "mask"),(Str.ofString "before"),(Str.ofString "after")]
noncomputable def lI:{b:List Stmt // aj aQ=b}:=by
 have e:aj aQ=aj aQ:=rfl
 conv at e=>rhs;whnf
 exact⟨_,e⟩
noncomputable def ic:{b:Scope // ae aQ=b}:=by
 have e:ae aQ=ae aQ:=rfl
 conv at e=>rhs;whnf
 exact⟨_,e⟩
theorem ck:bf dQ [(Str.ofString "self"),(Str.ofString "turned"),(Str.ofString "level")] ic.1:=⟨rfl,rfl,rfl,by decide+kernel,rfl,by decide+kernel,by decide+kernel⟩
noncomputable def gu:FZ:=(wm (bP (b2 mB (ag 2) (eC (.str (Str.ofString "safe"))))) (cC 3 (xP (e2 BX (e2 BX (ag 3) (e2 Dv (e2 cR (ag 4) (eC (.int 0))) (e2 cR (ag 5) (eC (.int 1))))) (e2 Dv (e2 cR (ag 4) (eC (.int 1))) (e2 cR (ag 5) (eC (.int 0))))))) (cC 3 (xP (e2 BX (e2 BX (ag 3) (e2 xi (e2 cR (ag 4) (eC (.int 0))) (e2 cR (ag 5) (eC (.int 0))))) (e2 xi (e2 cR (ag 4) (eC (.int 1))) (e2 cR (ag 5) (eC (.int 1))))))))
noncomputable def eX:FZ:=(bu (cC 3 (xP (eC (.int 0)))) (bu (iq (Ep (pJ 1 (Str.ofString "plain") (cj 0)) (rL 0 (Str.ofString "readings") bN (pJ 1 (Str.ofString "bench") (cj 0)) (aC (xP (ag 1)) cN))) (ve 2 (pG (iV 4) (pG (iV 5) v8))) gu) (gz (xP (ag 3)))))
noncomputable def gK:List V3→aF→R3 V3:=l6 dQ eX
noncomputable def cP:List V3→aF→R3 V3:=mF dQ eX
theorem c6{P:Program}{w:World}{K:PySem.W.Frag}{mg:Str→Option Value}{base:Heap}{cl:Nat→Addr}(T:Tp K mg cl)(h:tq K (cl 1) (Str.ofString "breaks_at") (Str.ofString "Trial.breaks_at") aQ)(XP_Bench_readings:fW P w K mg base cl 5 0 (Str.ofString "readings") 1 bN):fW P w K mg base cl 6 1 (Str.ofString "breaks_at") 2 gK:=by
 obtain⟨f,fd,F,hm⟩:=h
 exact⟨f,fd,_,T.C_Trial,hm,bW (k:=5) lI.2 ic.2 F ck (fun cdv A outer s H E hr=>(au (bj ck.nd rfl (Or.inl rfl) (ai af)) (au (d9 PassesOwn.never rfl (CC (jq T.C_Trial T.N_Trial_plain (bc 0)) (og XP_Bench_readings hr (by decide) (jq T.C_Trial T.N_Trial_bench (bc 0)) (ak (ai (aa 1)) aR) (ao ba)) rfl T.z_zip) (jz rfl (bZ (aU ck.nd rfl (Or.inl rfl)) (bZ (aU ck.nd rfl (Or.inl rfl)) ie))) (aG (j8 (eR (cw (oV hr.units) (aa 2) cX (cJ _))) (aG (bj ck.nd rfl (Or.inl rfl) (ai (aA va (aA va (aa 3) (aA vD (aJ (aa 4) af (fun _ _=>rfl)) (aJ (aa 5) af (fun _ _=>rfl)))) (aA vD (aJ (aa 4) af (fun _ _=>rfl)) (aJ (aa 5) af (fun _ _=>rfl))))))) (aG (bj ck.nd rfl (Or.inl rfl) (ai (aA va (aA va (aa 3) (aA qr (aJ (aa 4) af (fun _ _=>rfl)) (aJ (aa 5) af (fun _ _=>rfl)))) (aA qr (aJ (aa 4) af (fun _ _=>rfl)) (aJ (aa 5) af (fun _ _=>rfl)))))))))) (aG (cU (ai (aa 3))))))),F.binds fun _ _ _ _ _ _ us hl=>match us,hl with | [_,_,_],_=>rfl⟩
noncomputable abbrev dD:Stmt:=top 18
noncomputable abbrev fP:List Str:=[(Str.ofString "net"),(Str.ofString "many"),(Str.ofString "level"),(Str.ofString "trial"),(Str.ofString "found"),(Str.ofString "size"),(Str.ofString "places")]
noncomputable def t5:{b:List Stmt // aj dD=b}:=by
 have e:aj dD=aj dD:=rfl
 conv at e=>rhs;whnf
 exact⟨_,e⟩
noncomputable def kf:{b:Scope // ae dD=b}:=by
 have e:ae dD=ae dD:=rfl
 conv at e=>rhs;whnf
 exact⟨_,e⟩
theorem ia:bf fP [(Str.ofString "net"),(Str.ofString "many"),(Str.ofString "level")] kf.1:=⟨rfl,rfl,rfl,by decide+kernel,rfl,by decide+kernel,by decide+kernel⟩
noncomputable def jw:FZ:=(wm (bT (jR (aO AA (aw (eNew (et (c0 (ag 4)) (bg 0) jV (aO fK (aw (ag 1) (aw (ag 0) bb))) [(Str.ofString "others")] [6])) bb)))) mh (wm (Hy vd (rL 1 (Str.ofString "breaks_at") cP (cj 3) (aC (xP (ag 6)) (aC (xP (ag 2)) cN))) (xP (eC (.int 0)))) (mG 4 (xP (ag 6))) mh))
noncomputable def mf:FZ:=(iq (uJ (lg (du 4) (aC (pJ 1 (Str.ofString "unsure") (cj 3)) (aC (xP (ag 5)) cN)))) (iV 6) jw)
noncomputable def jE:FZ:=(bu (cC 3 (xN 1 cm (aC (xP (ag 0)) cN))) (bu (cC 4 (m4 (fD bb))) (bu (iq (iP (j2 (e2 fZ (ag 1) (eC (.int 1))))) (iV 5) mf) (gz (cj 4)))))
noncomputable def iC:List V3→aF→R3 V3:=l6 fP jE
noncomputable def dU:List V3→aF→R3 V3:=mF fP jE
theorem vI{P:Program}{w:World}{K:PySem.W.Frag}{mg:Str→Option Value}{base:Heap}{cl:Nat→Addr}(T:Tp K mg cl)(h:Def K mg (Str.ofString "breaking") dD)(C_choices:Callee P w K mg base 5 (Str.ofString "choices") 2 (du 4))(C_has_all:Callee P w K mg base 1 (Str.ofString "has_all") 2 fK)(XK_Trial___init__:pU P w K mg base cl 6 1 (Str.ofString "Trial") 1 cm)(XP_Trial_breaks_at:fW P w K mg base cl 6 1 (Str.ofString "breaks_at") 2 cP):aH P w K mg base cl 8 (Str.ofString "breaking") 3 iC:=by
 obtain⟨f,fd,F,hm⟩:=h
 exact⟨f,fd,_,bW (k:=7) t5.2 kf.2 F ia (fun cdv A outer s H E hr=>(au (bj ia.nd rfl (Or.inl rfl) (xo XK_Trial___init__ hr (by decide) rfl (ak (ai (aa 0)) aR) (ao ba))) (au (bj ia.nd rfl (Or.inl rfl) (g7 (dO av))) (au (d9 PassesOwn.never rfl (cK (iI (aA iA (aa 1) af) rfl T.z_range)) (aU ia.nd rfl (Or.inl rfl)) (aG (Dq PassesOwn.never rfl (lW (ug C_choices hr (by decide) rfl (ak (jq T.C_Trial T.N_Trial_unsure (bc 3)) (ak (ai (aa 5)) aR)) (ao (ao ba)))) (aU ia.nd rfl (Or.inr rfl)) (BO (BK (l3 (bo (Ee rfl) rfl T.z_any PyProof.Rows.boot_any (ah (dy (dn rfl (bM.of (own:=[(Str.ofString "others")]) (kp:=[6]) (kn:=[(Str.ofString "places")]) (sc:=kf.1) (N:=fP) rfl rfl (by decide+kernel)) (bG (aa 4)) (fun _ _ _=>(bz (show List.Nodup [(Str.ofString "others"),(Str.ofString "places")] from by decide+kernel) rfl (Or.inl rfl))) (fun _ _ _=>dN) (fun _ _ _=>(cV C_has_all hr (by decide) rfl (ah (aa 1) (ah (aa 0) av)) (bq (bq dG)))))) av)))) (Gq (aG (j8 (sf (F6 hr.units) (og XP_Trial_breaks_at hr (by decide) (bc 3) (ak (ai (aa 6)) (ak (ai (aa 2)) aR)) (ao (ao ba))) (ai af) (cJ _)) (aG (lK rfl (Or.inl rfl) (ai (aa 6)))) fQ))))))) (aG (cU (bc 4))))))),hm,F.kp,F.binds fun _ _ _ _ _ _ us hl=>match us,hl with | [_,_,_],_=>rfl⟩
noncomputable abbrev b8:Stmt:=top 19
noncomputable abbrev eB:List Str:=[(Str.ofString "groups"),(Str.ofString "taken"),(Str.ofString "count"),(Str.ofString "group"),(Str.ofString "place")]
noncomputable def pP:{b:List Stmt // aj b8=b}:=by
 have e:aj b8=aj b8:=rfl
 conv at e=>rhs;whnf
 exact⟨_,e⟩
noncomputable def gL:{b:Scope // ae b8=b}:=by
 have e:ae b8=ae b8:=rfl
 conv at e=>rhs;whnf
 exact⟨_,e⟩
theorem dI:bf eB [(Str.ofString "groups")] gL.1:=⟨rfl,rfl,rfl,by decide+kernel,rfl,by decide+kernel,by decide+kernel⟩
noncomputable def jF:FZ:=(xw (cj 1) (xP (ag 4)) (xP (eC (.bl true))))
noncomputable def jM:FZ:=(wm (FR (C7 (lg AA (aC (k3 (iP (c0 (ag 3))) (iV 0) y8 (FH (xP (ag 0)) (cj 1)) [(Str.ofString "place")] [1]) cN)))) (bu (cC 2 (xP (e2 fZ (ag 2) (eC (.int 1))))) (iq (iP (c0 (ag 3))) (iV 4) jF)) mh)
noncomputable def iO:FZ:=(bu (cC 1 yb) (bu (cC 2 (xP (eC (.int 0)))) (bu (iq (iP (c0 (ag 0))) (iV 3) jM) (gz (xP (ag 2))))))
noncomputable def kh:List V3→aF→R3 V3:=l6 eB iO
noncomputable def dZ:List V3→aF→R3 V3:=mF eB iO
theorem qA{P:Program}{w:World}{K:PySem.W.Frag}{mg:Str→Option Value}{base:Heap}{cl:Nat→Addr}(T:Tp K mg cl)(h:Def K mg (Str.ofString "count_apart") b8):aH P w K mg base cl 1 (Str.ofString "count_apart") 1 kh:=by
 obtain⟨f,fd,F,hm⟩:=h
 exact⟨f,fd,_,bW (k:=0) pP.2 gL.2 F dI (fun cdv A outer s H E hr=>(au (bj dI.nd rfl (Or.inr rfl) x6) (au (bj dI.nd rfl (Or.inl rfl) (ai af)) (au (d9 PassesOwn.never rfl (cK (bG (aa 0))) (aU dI.nd rfl (Or.inl rfl)) (aG (j8 (Dh (Bz (Bn (Ee rfl) rfl T.z_any PyProof.Rows.boot_any (ak (sL rfl (bM.of (own:=[(Str.ofString "place")]) (kp:=[1]) (kn:=[(Str.ofString "taken")]) (sc:=gL.1) (N:=eB) rfl rfl (by decide+kernel)) (cK (bG (aa 3))) (fun _ _ _=>(aU (show List.Nodup [(Str.ofString "place"),(Str.ofString "taken")] from by decide+kernel) rfl (Or.inl rfl))) (fun _ _ _=>kD) (fun _ _ _=>(Er (zr hr) (ai (aa 0)) (bc 1) (by with_unfolding_all rfl)))) aR)))) (au (bj dI.nd rfl (Or.inl rfl) (ai (aA iA (aa 2) af))) (aG (d9 PassesOwn.never rfl (cK (bG (aa 3))) (aU dI.nd rfl (Or.inl rfl)) (aG (xK (zr hr) (ai vQ) (bc 1) (ai (aa 4))))))) fQ))) (aG (cU (ai (aa 2)))))))),hm,F.kp,F.binds fun _ _ _ _ _ _ us hl=>match us,hl with | [_],_=>rfl⟩
noncomputable abbrev e8:Stmt:=top 20
noncomputable abbrev o5:List Str:=[(Str.ofString "group"),(Str.ofString "place")]
noncomputable def yV:{b:List Stmt // aj e8=b}:=by
 have e:aj e8=aj e8:=rfl
 conv at e=>rhs;whnf
 exact⟨_,e⟩
noncomputable def nv:{b:Scope // ae e8=b}:=by
 have e:ae e8=ae e8:=rfl
 conv at e=>rhs;whnf
 exact⟨_,e⟩
theorem zU:bf o5 [(Str.ofString "group"),(Str.ofString "place")] nv.1:=⟨rfl,rfl,rfl,by decide+kernel,rfl,by decide+kernel,by decide+kernel⟩
noncomputable def ui:FS:=(fM (eNew (et (c0 (ag 0)) (bg 0) (b2 zq (ag 0) (ag 1)) (ag 0) [(Str.ofString "other")] [1])))
noncomputable def jb:List D→R D:=oz o5 ui
theorem zI{P:Program}{w:World}{K:PySem.W.Frag}{mg:Str→Option Value}{base:Heap}{cl:Nat→Addr}(T:Tp K mg cl)(h:Def K mg (Str.ofString "behind") e8):Callee P w K mg base 1 (Str.ofString "behind") 2 jb:=by
 obtain⟨f,fd,F,hm⟩:=h
 exact⟨f,fd,_,dJ (k:=0) yV.2 nv.2 F zU (fun cdv A outer s H E hr=>(bL (cv (dy (dn rfl (bM.of (own:=[(Str.ofString "other")]) (kp:=[1]) (kn:=[(Str.ofString "place")]) (sc:=nv.1) (N:=o5) rfl rfl (by decide+kernel)) (bG (aa 0)) (fun _ _ _=>(bz (show List.Nodup [(Str.ofString "other"),(Str.ofString "place")] from by decide+kernel) rfl (Or.inl rfl))) (fun _ _ _=>(oY (cw Gs (aa 0) (aa 1) (cJ _)))) (fun _ _ _=>(aa 0))))))),hm,F.kp,F.binds fun _ _ _ _ _ _ us hl=>match us,hl with | [_,_],_=>rfl⟩
noncomputable abbrev b_:Stmt:=top 21
noncomputable abbrev iL:List Str:=[(Str.ofString "groups"),(Str.ofString "place")]
noncomputable def qa:{b:List Stmt // aj b_=b}:=by
 have e:aj b_=aj b_:=rfl
 conv at e=>rhs;whnf
 exact⟨_,e⟩
noncomputable def hV:{b:Scope // ae b_=b}:=by
 have e:ae b_=ae b_:=rfl
 conv at e=>rhs;whnf
 exact⟨_,e⟩
theorem qp:bf iL [(Str.ofString "groups"),(Str.ofString "place")] hV.1:=⟨rfl,rfl,rfl,by decide+kernel,rfl,by decide+kernel,by decide+kernel⟩
noncomputable def kY:FS:=(fM (eNew (et (c0 (ag 0)) (bg 0) (b2 gQ (ag 1) (ag 0)) (aO jb (aw (ag 0) (aw (ag 1) bb))) [(Str.ofString "group")] [1])))
noncomputable def dM:List D→R D:=oz iL kY
theorem qt{P:Program}{w:World}{K:PySem.W.Frag}{mg:Str→Option Value}{base:Heap}{cl:Nat→Addr}(T:Tp K mg cl)(h:Def K mg (Str.ofString "groups_left") b_)(C_behind:Callee P w K mg base 1 (Str.ofString "behind") 2 jb):Callee P w K mg base 2 (Str.ofString "groups_left") 2 dM:=by
 obtain⟨f,fd,F,hm⟩:=h
 exact⟨f,fd,_,dJ (k:=1) qa.2 hV.2 F qp (fun cdv A outer s H E hr=>(bL (cv (dy (dn rfl (bM.of (own:=[(Str.ofString "group")]) (kp:=[1]) (kn:=[(Str.ofString "place")]) (sc:=hV.1) (N:=iL) rfl rfl (by decide+kernel)) (bG (aa 0)) (fun _ _ _=>(bz (show List.Nodup [(Str.ofString "group"),(Str.ofString "place")] from by decide+kernel) rfl (Or.inl rfl))) (fun _ _ _=>(oY (cw Cy (aa 1) (aa 0) (by with_unfolding_all rfl)))) (fun _ _ _=>(cV C_behind hr (by decide) rfl (ah (aa 0) (ah (aa 1) av)) (bq (bq dG))))))))),hm,F.kp,F.binds fun _ _ _ _ _ _ us hl=>match us,hl with | [_,_],_=>rfl⟩
noncomputable abbrev bK:Stmt:=top 22
noncomputable abbrev d8:List Str:=[(Str.ofString "groups"),(Str.ofString "most"),(Str.ofString "last"),(Str.ofString "tried"),(Str.ofString "group"),(Str.ofString "place"),(Str.ofString "rest")]
noncomputable def n4:{b:List Stmt // aj bK=b}:=by
 have e:aj bK=aj bK:=rfl
 conv at e=>rhs;whnf
 exact⟨_,e⟩
noncomputable def gb:{b:Scope // ae bK=b}:=by
 have e:ae bK=ae bK:=rfl
 conv at e=>rhs;whnf
 exact⟨_,e⟩
theorem cL:bf d8 [(Str.ofString "groups"),(Str.ofString "most")] gb.1:=⟨rfl,rfl,rfl,by decide+kernel,rfl,by decide+kernel,by decide+kernel⟩
noncomputable def je(self:List V3→aF→R3 V3):FZ:=(wm (bP (b2 vF (ag 5) (ag 2))) (xw (cj 3) (xP (ag 5)) (xP (eC (.bl true)))) mh)
noncomputable def i4(self:List V3→aF→R3 V3):FZ:=(iq (iP (c0 (ag 4))) (iV 5) (je self))
noncomputable def ja(self:List V3→aF→R3 V3):FZ:=(bu (cC 6 (df self (aC (xP (aO dM (aw (ag 0) (aw (ag 5) bb)))) (aC (xP (e2 lJ (ag 1) (eC (.int 1)))) cN)))) (wm (bP (b2 ET (ag 6) (eC .bX))) (gz (xP (e2 fw (gh (aw (ag 5) bb)) (ag 6)))) mh))
noncomputable def gZ(self:List V3→aF→R3 V3):FZ:=(bu (wm (Hy zq (df dZ (aC (xP (ag 0)) cN)) (xP (ag 1))) (gz (xP (eC .bX))) mh) (bu (wm (bP (kK (jR (ag 0)))) (gz (xP (gh bb))) mh) (bu (cC 2 (xP (aO lZ (aw (eNew (et (c0 (ag 0)) (bg 0) jV (e2 cR (ag 0) (yp (eC (.int 1)))) [(Str.ofString "group")] [])) bb)))) (bu (cC 3 yb) (bu (iq (iP (c0 (ag 0))) (iV 4) (i4 self)) (bu (iq (uJ (vx (cj 3))) (iV 5) (ja self)) (gz (xP (eC .bX)))))))))
noncomputable def bS:Nat→List V3→aF→R3 V3
 | 0=>fun _ _=> .no
 | n+1=>mF d8 (gZ (bS n))
theorem jS{P:Program}{w:World}{K:PySem.W.Frag}{mg:Str→Option Value}{base:Heap}{cl:Nat→Addr}(T:Tp K mg cl)(h:Def K mg (Str.ofString "first_places") bK)(C_groups_left:Callee P w K mg base 2 (Str.ofString "groups_left") 2 dM)(XP_count_apart:aH P w K mg base cl 1 (Str.ofString "count_apart") 1 dZ):∀n,aH P w K mg base cl (3+n) (Str.ofString "first_places") 2 (bS n)
 | 0=>by
   obtain⟨f,fd,F,hm⟩:=h
   exact⟨f,fd,[(Str.ofString "groups"),(Str.ofString "most")],EK,hm,F.kp,F.binds fun _ _ _ _ _ _ us hl=>match us,hl with | [_,_],_=>rfl⟩
 | n+1=>by
   have XP_self:=jS (P:=P) (w:=w) (K:=K) (mg:=mg) (base:=base) T h C_groups_left XP_count_apart n
   obtain⟨f,fd,F,hm⟩:=h
   exact aH.p ⟨f,fd,_,bW (k:=3+n) n4.2 gb.2 F cL (fun cdv A outer s H E hr=>(au (j8 (sf Gs (bR XP_count_apart hr (by omega) rfl (ak (ai (aa 0)) aR) (ao ba)) (ai (aa 1)) (cJ _)) (aG (cU (ai oF))) fQ) (au (j8 (eR (oA (l3 (aa 0)))) (aG (cU (ai (ef av)))) fQ) (au (bj cL.nd rfl (Or.inl rfl) (ai (bo (vA rfl) rfl T.z_min PyProof.Rows.boot_min (ah (dy (dn rfl (bM.of (own:=[(Str.ofString "group")]) (kp:=[]) (kn:=[]) (sc:=gb.1) (N:=d8) rfl rfl (by decide+kernel)) (bG (aa 0)) (fun _ _ _=>(bz (show List.Nodup [(Str.ofString "group")] from by decide+kernel) rfl (Or.inl rfl))) (fun _ _ _=>dN) (fun _ _ _=>(aJ (aa 0) (su af) (fun _ _=>rfl))))) av)))) (au (bj cL.nd rfl (Or.inl rfl) x6) (au (d9 PassesOwn.never rfl (cK (bG (aa 0))) (aU cL.nd rfl (Or.inl rfl)) (aG (d9 PassesOwn.never rfl (cK (bG (aa 4))) (aU cL.nd rfl (Or.inl rfl)) (aG (j8 (eR (cw EA (aa 5) (aa 2) (cJ _))) (aG (xK (zr hr) (ai vQ) (bc 3) (ai (aa 5)))) fQ))))) (au (d9 PassesOwn.never rfl (lW (zF rfl (bc 3) rfl T.z_sorted)) (aU cL.nd rfl (Or.inl rfl)) (au (bj cL.nd rfl (Or.inl rfl) (bR XP_self hr (by omega) rfl (ak (ai (cV C_groups_left hr (by omega) rfl (ah (aa 0) (ah (aa 5) av)) (bq (bq dG)))) (ak (ai (aA pq (aa 1) af)) aR)) (ao (ao ba)))) (aG (j8 (eR (cw HH (aa 6) oF (cJ _))) (aG (cU (ai (aA il (ef (ah (aa 5) av)) (aa 6))))) fQ)))) (aG (cU (ai oF)))))))))),hm,F.kp,F.binds fun _ _ _ _ _ _ us hl=>match us,hl with | [_,_],_=>rfl⟩
noncomputable abbrev eT:Stmt:=top 23
noncomputable abbrev jZ:List Str:=[(Str.ofString "net"),(Str.ofString "many"),(Str.ofString "level"),(Str.ofString "groups"),(Str.ofString "most"),(Str.ofString "places")]
noncomputable def yL:{b:List Stmt // aj eT=b}:=by
 have e:aj eT=aj eT:=rfl
 conv at e=>rhs;whnf
 exact⟨_,e⟩
noncomputable def nc:{b:Scope // ae eT=b}:=by
 have e:ae eT=ae eT:=rfl
 conv at e=>rhs;whnf
 exact⟨_,e⟩
theorem i_:bf jZ [(Str.ofString "net"),(Str.ofString "many"),(Str.ofString "level")] nc.1:=⟨rfl,rfl,rfl,by decide+kernel,rfl,by decide+kernel,by decide+kernel⟩
noncomputable def k7:FZ:=(bu (cC 4 (xP (e2 fZ (ag 4) (eC (.int 1))))) (cC 5 (df (bS 42) (aC (xP (ag 3)) (aC (xP (ag 4)) cN)))))
noncomputable def qc:FZ:=(bu (cC 3 (k3 (uJ (df dU (aC (xP (ag 0)) (aC (xP (ag 1)) (aC (xP (ag 2)) cN))))) (iV 0) y8 (xP (aO kU (aw (ag 0) bb))) [(Str.ofString "places")] [])) (bu (cC 4 (xP (eC (.int 0)))) (bu (cC 5 (df (bS 42) (aC (xP (ag 3)) (aC (xP (ag 4)) cN)))) (bu (vX 1000 (bP (b2 ID (ag 5) (eC .bX))) k7) (gz (xP (ag 5)))))))
noncomputable def rJ:List V3→aF→R3 V3:=l6 jZ qc
noncomputable def ky:List V3→aF→R3 V3:=mF jZ qc
theorem A7{P:Program}{w:World}{K:PySem.W.Frag}{mg:Str→Option Value}{base:Heap}{cl:Nat→Addr}(T:Tp K mg cl)(h:Def K mg (Str.ofString "surest") eT)(XP_breaking:aH P w K mg base cl 8 (Str.ofString "breaking") 3 dU)(XP_first_places:aH P w K mg base cl 45 (Str.ofString "first_places") 2 (bS 42)):aH P w K mg base cl 46 (Str.ofString "surest") 3 rJ:=by
 obtain⟨f,fd,F,hm⟩:=h
 exact⟨f,fd,_,bW (k:=45) yL.2 nc.2 F i_ (fun cdv A outer s H E hr=>(au (ph rfl i_.nd rfl rfl (bM.of (own:=[(Str.ofString "places")]) (kp:=[]) (kn:=[]) (sc:=nc.1) (N:=jZ) rfl rfl (by decide+kernel)) (lW (bR XP_breaking hr (by decide) rfl (ak (ai (aa 0)) (ak (ai (aa 1)) (ak (ai (aa 2)) aR))) (ao (ao (ao ba))))) (fun _ _ _=>(aU (show List.Nodup [(Str.ofString "places")] from by decide+kernel) rfl (Or.inl rfl))) (fun _ _ _=>kD) (fun _ _ _=>(ai (gR Fy rfl T.z_list PyProof.Rows.boot_list (ah (aa 0) av))))) (au (bj i_.nd rfl (Or.inl rfl) (ai af)) (au (bj i_.nd rfl (Or.inl rfl) (bR XP_first_places hr (by decide) rfl (ak (ai (aa 3)) (ak (ai (aa 4)) aR)) (ao (ao ba)))) (au (Ax 1000 PassesOwn.never (eR (cw Jj (aa 5) oF (cJ _))) (au (bj i_.nd rfl (Or.inl rfl) (ai (aA iA (aa 4) af))) (aG (bj i_.nd rfl (Or.inl rfl) (bR XP_first_places hr (by decide) rfl (ak (ai (aa 3)) (ak (ai (aa 4)) aR)) (ao (ao ba))))))) (aG (cU (ai (aa 5))))))))),hm,F.kp,F.binds fun _ _ _ _ _ _ us hl=>match us,hl with | [_,_,_],_=>rfl⟩
noncomputable abbrev dE:Stmt:=top 25
noncomputable abbrev jC:List Str:=[(Str.ofString "pot"),(Str.ofString "many"),(Str.ofString "cell"),(Str.ofString "stir")]
noncomputable def uB:{b:List Stmt // aj dE=b}:=by
 have e:aj dE=aj dE:=rfl
 conv at e=>rhs;whnf
 exact⟨_,e⟩
noncomputable def nO:{b:Scope // ae dE=b}:=by
 have e:ae dE=ae dE:=rfl
 conv at e=>rhs;whnf
 exact⟨_,e⟩
theorem jl:bf jC [(Str.ofString "pot"),(Str.ofString "many")] nO.1:=⟨rfl,rfl,rfl,by decide+kernel,rfl,by decide+kernel,by decide+kernel⟩
noncomputable def k_:FZ:=(bu (yz (cj 0) (xP (eC (.int 1))) (xT (e2 fZ (e2 cR (ag 0) (eC (.int 1))) (eC (.int 1))))) (bu (cC 2 (xT (e2 cR (ag 0) (eC (.int 0))))) (bu (wm (bP (b2 Dl (ag 2) (e2 sC (eC (.int 10)) (eC (.int 18))))) (bu (yz (cj 0) (xP (eC (.int 0))) (xP (e2 jN (ag 2) (ag 1)))) (gz (xP (e2 jQ (ag 2) (ag 1))))) mh) (bu (cC 3 (xT (e2 jQ (e2 fZ (e2 fZ (e2 kJ (ag 2) (eC (.int 69621))) (e2 kJ (e2 cR (ag 0) (eC (.int 1))) (eC (.int 7919)))) (eC (.int 13))) (eC (.int 2147483647))))) (bu (cC 3 (xP (e2 jQ (e2 kJ (ag 3) (ag 3)) (eC (.int 2147483629))))) (gz (xT (e2 jQ (e2 jN (e2 jQ (e2 fZ (e2 kJ (ag 3) (eC (.int 48271))) (e2 kJ (e2 cR (ag 0) (eC (.int 1))) (eC (.int 40692)))) (eC (.int 2147483587))) (eC (.int 8))) (ag 1)))))))))
noncomputable def nD:List V3→aF→R3 V3:=l6 jC k_
noncomputable def bx:List V3→aF→R3 V3:=mF jC k_
theorem vw{P:Program}{w:World}{K:PySem.W.Frag}{mg:Str→Option Value}{base:Heap}{cl:Nat→Addr}(T:Tp K mg cl)(h:Def K mg (Str.ofString "_law_next") dE):aH P w K mg base cl 1 (Str.ofString "_law_next") 2 nD:=by
 obtain⟨f,fd,F,hm⟩:=h
 exact⟨f,fd,_,bW (k:=0) uB.2 nO.2 F jl (fun cdv A outer s H E hr=>(au (sV (fU (aA iA (aJ (aa 0) af (fun _ _=>rfl)) af)) (sO (PX.go (bc 0)) (PX.go (ai af)) set_list)) (au (bj jl.nd rfl (Or.inl rfl) (fU (aJ (aa 0) af (fun _ _=>rfl)))) (au (j8 (eR (cw JD (aa 2) (aA H0 af af) (cJ _))) (au (sV (ai (aA A3 (aa 2) (aa 1))) (sO (PX.go (bc 0)) (PX.go (ai af)) set_list)) (aG (cU (ai (aA q9 (aa 2) (aa 1)))))) fQ) (au (bj jl.nd rfl (Or.inl rfl) (fU (aA q9 (aA iA (aA iA (aA rz (aa 2) af) (aA rz (aJ (aa 0) af (fun _ _=>rfl)) af)) af) af))) (au (bj jl.nd rfl (Or.inl rfl) (ai (aA q9 (aA rz (aa 3) (aa 3)) af))) (aG (cU (fU (aA q9 (aA A3 (aA q9 (aA iA (aA rz (aa 3) af) (aA rz (aJ (aa 0) af (fun _ _=>rfl)) af)) af) af) (aa 1))))))))))),hm,F.kp,F.binds fun _ _ _ _ _ _ us hl=>match us,hl with | [_,_],_=>rfl⟩
noncomputable abbrev dC:Stmt:=top 26
noncomputable abbrev hW:List Str:=[(Str.ofString "script")]
noncomputable def u9:{b:List Stmt // aj dC=b}:=by
 have e:aj dC=aj dC:=rfl
 conv at e=>rhs;whnf
 exact⟨_,e⟩
noncomputable def kg:{b:Scope // ae dC=b}:=by
 have e:ae dC=ae dC:=rfl
 conv at e=>rhs;whnf
 exact⟨_,e⟩
theorem v_:bf hW [(Str.ofString "script")] kg.1:=⟨rfl,rfl,rfl,by decide+kernel,rfl,by decide+kernel,by decide+kernel⟩
noncomputable def lD:FZ:=(bu (wm (bP (b2 mB (aO eu (aw (ag 0) bb)) (eC (.int 0)))) (gz (FP (aC (m4 (fD (aw (eC (.int 0)) (aw (eC (.int 0)) bb)))) cN))) mh) (gz (k3 (iP (c0 (w9 (ag 0) iU (g9 (eC (.int 63)))))) (iV 0) y8 (m4 (fD (aw (ag 0) (aw (eC (.int 0)) bb)))) [(Str.ofString "cell")] [])))
noncomputable def fV:List V3→aF→R3 V3:=l6 hW lD
noncomputable def t8:List V3→aF→R3 V3:=mF hW lD
theorem vG{P:Program}{w:World}{K:PySem.W.Frag}{mg:Str→Option Value}{base:Heap}{cl:Nat→Addr}(T:Tp K mg cl)(h:Def K mg (Str.ofString "_law_pots") dC):aH P w K mg base cl 1 (Str.ofString "_law_pots") 1 fV:=by
 obtain⟨f,fd,F,hm⟩:=h
 exact⟨f,fd,_,bW (k:=0) u9.2 kg.2 F v_ (fun cdv A outer s H E hr=>(au (j8 (eR (cw (oV hr.units) (bo fv rfl T.z_len PySem.boot_len (ah (aa 0) av)) af (cJ _))) (aG (cU (FJ (ak (g7 (dO (ah af (ah af av)))) aR)))) fQ) (aG (cU (sL rfl (bM.of (own:=[(Str.ofString "cell")]) (kp:=[]) (kn:=[]) (sc:=kg.1) (N:=hW) rfl rfl (by decide+kernel)) (cK (bG (tH (aa 0) mC (l5 af)))) (fun _ _ _=>(aU (show List.Nodup [(Str.ofString "cell")] from by decide+kernel) rfl (Or.inl rfl))) (fun _ _ _=>kD) (fun _ _ _=>(g7 (dO (ah (aa 0) (ah af av)))))))))),hm,F.kp,F.binds fun _ _ _ _ _ _ us hl=>match us,hl with | [_],_=>rfl⟩
noncomputable abbrev bO:Stmt:=top 27
noncomputable abbrev d6:List Str:=[(Str.ofString "pot"),(Str.ofString "pots"),(Str.ofString "names"),(Str.ofString "gates"),(Str.ofString "one"),(Str.ofString "many"),(Str.ofString "wires"),(Str.ofString "kind"),(Str.ofString "outs"),(Str.ofString "k")]
noncomputable def nU:{b:List Stmt // aj bO=b}:=by
 have e:aj bO=aj bO:=rfl
 conv at e=>rhs;whnf
 exact⟨_,e⟩
noncomputable def gc:{b:Scope // ae bO=b}:=by
 have e:ae bO=ae bO:=rfl
 conv at e=>rhs;whnf
 exact⟨_,e⟩
theorem bp:bf d6 [(Str.ofString "pot"),(Str.ofString "pots")] gc.1:=⟨rfl,rfl,rfl,by decide+kernel,rfl,by decide+kernel,by decide+kernel⟩
noncomputable def fB:FZ:=(bu (cC 5 (xT (e2 fw (aO eu (aw (ag 2) bb)) (aO eu (aw (ag 3) bb))))) (bu (cC 6 (tE (aC (x2 lJ (xP (e2 lJ (ag 5) (eC (.int 1)))) (df bx (aC (cj 4) (aC (xP (aO lZ (aw (ag 5) (aw (eC (.int 6)) bb)))) cN)))) cN))) (bu (cC 7 (xP (eC (.str (Str.ofString "not"))))) (bu (wm (Hy zq (df bx (aC (cj 4) (aC (xP (eC (.int 3))) cN))) (xP (eC (.int 0)))) (bu (cC 7 (xP (eC (.str (Str.ofString "xor"))))) (cC 6 (x2 fw (xP (ag 6)) (tE (aC (df bx (aC (cj 4) (aC (xP (ag 5)) cN))) cN))))) mh) (mG 3 (tE (aC (xP (ag 7)) (aC (xP (ag 6)) (aC (x2 mB (df bx (aC (cj 4) (aC (xP (eC (.int 6))) cN))) (xP (eC (.int 0)))) cN)))))))))
noncomputable def ji:FZ:=(mG 8 (tE (aC (xP (e2 fw (eC (.str (Str.ofString "o"))) (e2 cR (eC (.str (Str.ofString "abcdef"))) (ag 9)))) (aC (tE (aC (x2 lJ (xP (e2 lJ (ag 5) (eC (.int 1)))) (df bx (aC (cj 0) (aC (xP (e2 cR (eNew (fD (aw (ag 5) (aw (aO lZ (aw (ag 5) (aw (eC (.int 8)) bb))) bb)))) (e2 jQ (ag 9) (eC (.int 2))))) cN)))) cN)) cN))))
noncomputable def ib:FZ:=(bu (cC 2 (JG (xP (eNew (fD (aw (eC (.str (Str.ofString "a"))) (aw (eC (.str (Str.ofString "bb"))) (aw (eC (.str (Str.ofString "signal"))) (aw (eC (.str (Str.ofString "x"))) (aw (eC (.str (Str.ofString "yes"))) (aw (eC (.str (Str.ofString "abcdefgh"))) bb))))))))) sT (sI (x2 fw (xP (eC (.int 1))) (df bx (aC (cj 0) (aC (xP (eC (.int 6))) cN))))))) (bu (cC 3 (m4 (fD bb))) (bu (iq (uJ (cj 1)) (iV 4) fB) (bu (cC 5 (xT (e2 fw (aO eu (aw (ag 2) bb)) (aO eu (aw (ag 3) bb))))) (bu (cC 8 (m4 (fD bb))) (bu (iq (uj (x2 fw (xP (eC (.int 1))) (df bx (aC (cj 0) (aC (xP (eC (.int 6))) cN))))) (iV 9) ji) (gz (tE (aC (m4 (et (c0 (ag 2)) (bg 0) jV (gh (aw (ag 0) (aw (eC (.int 1)) bb))) [(Str.ofString "name")] [])) (aC (cj 3) (aC (cj 8) cN)))))))))))
noncomputable def jL:List V3→aF→R3 V3:=l6 d6 ib
noncomputable def eG:List V3→aF→R3 V3:=mF d6 ib
theorem pF{P:Program}{w:World}{K:PySem.W.Frag}{mg:Str→Option Value}{base:Heap}{cl:Nat→Addr}(T:Tp K mg cl)(h:Def K mg (Str.ofString "_law_some_net") bO)(XP_law_next:aH P w K mg base cl 1 (Str.ofString "_law_next") 2 bx):aH P w K mg base cl 2 (Str.ofString "_law_some_net") 2 jL:=by
 obtain⟨f,fd,F,hm⟩:=h
 exact⟨f,fd,_,bW (k:=1) nU.2 gc.2 F bp (fun cdv A outer s H E hr=>(au (bj bp.nd rfl (Or.inl rfl) (G3 (ai (dy (dO (ah cX (ah cX (ah cX (ah cX (ah cX (ah cX av))))))))) tT (t7 (rM il (ai af) (bR XP_law_next hr (by decide) rfl (ak (bc 0) (ak (ai af) aR)) (ao (ao ba))))))) (au (bj bp.nd rfl (Or.inl rfl) (g7 (dO av))) (au (d9 PassesOwn.never rfl (lW (bc 1)) (aU bp.nd rfl (Or.inl rfl)) (au (bj bp.nd rfl (Or.inl rfl) (fU (aA il (bo fv rfl T.z_len PySem.boot_len (ah (aa 2) av)) (bo fv rfl T.z_len PySem.boot_len (ah (aa 3) av))))) (au (bj bp.nd rfl (Or.inl rfl) (mU (ak (rM pq (ai (aA pq (aa 5) af)) (bR XP_law_next hr (by decide) rfl (ak (bc 4) (ak (ai (bo (vA rfl) rfl T.z_min PyProof.Rows.boot_min (ah (aa 5) (ah af av)))) aR)) (ao (ao ba)))) aR))) (au (bj bp.nd rfl (Or.inl rfl) (ai cX)) (au (j8 (sf Gs (bR XP_law_next hr (by decide) rfl (ak (bc 4) (ak (ai af) aR)) (ao (ao ba))) (ai af) (cJ _)) (au (bj bp.nd rfl (Or.inl rfl) (ai cX)) (aG (bj bp.nd rfl (Or.inl rfl) (rM il (ai (aa 6)) (mU (ak (bR XP_law_next hr (by decide) rfl (ak (bc 4) (ak (ai (aa 5)) aR)) (ao (ao ba))) aR)))))) fQ) (aG (lK rfl (Or.inl rfl) (mU (ak (ai (aa 7)) (ak (ai (aa 6)) (ak (AJ (oV hr.units) (bR XP_law_next hr (by decide) rfl (ak (bc 4) (ak (ai af) aR)) (ao (ao ba))) (ai af) (cJ _)) aR))))))))))) (au (bj bp.nd rfl (Or.inl rfl) (fU (aA il (bo fv rfl T.z_len PySem.boot_len (ah (aa 2) av)) (bo fv rfl T.z_len PySem.boot_len (ah (aa 3) av))))) (au (bj bp.nd rfl (Or.inl rfl) (g7 (dO av))) (au (d9 PassesOwn.never rfl (vR (rM il (ai af) (bR XP_law_next hr (by decide) rfl (ak (bc 0) (ak (ai af) aR)) (ao (ao ba)))) rfl T.z_range) (aU bp.nd rfl (Or.inl rfl)) (aG (lK rfl (Or.inl rfl) (mU (ak (ai (aA il cX (aJ cX (aa 9) (fun _ _=>rfl)))) (ak (mU (ak (rM pq (ai (aA pq (aa 5) af)) (bR XP_law_next hr (by decide) rfl (ak (bc 0) (ak (ai (aJ (dy (dO (ah (aa 5) (ah (bo (vA rfl) rfl T.z_min PyProof.Rows.boot_min (ah (aa 5) (ah af av))) av)))) (aA q9 (aa 9) af) (fun _ _=>rfl))) aR)) (ao (ao ba)))) aR)) aR)))))) (aG (cU (mU (ak (g7 (dn rfl (bM.of (own:=[(Str.ofString "name")]) (kp:=[]) (kn:=[]) (sc:=gc.1) (N:=d6) rfl rfl (by decide+kernel)) (bG (aa 2)) (fun _ _ _=>(bz (show List.Nodup [(Str.ofString "name")] from by decide+kernel) rfl (Or.inl rfl))) (fun _ _ _=>dN) (fun _ _ _=>(ef (ah (aa 0) (ah af av)))))) (ak (bc 3) (ak (bc 8) aR))))))))))))),hm,F.kp,F.binds fun _ _ _ _ _ _ us hl=>match us,hl with | [_,_],_=>rfl⟩
noncomputable abbrev cb:Stmt:=top 28
noncomputable abbrev fS:List Str:=[(Str.ofString "net"),(Str.ofString "ins"),(Str.ofString "gates"),(Str.ofString "outs"),(Str.ofString "masks"),(Str.ofString "k"),(Str.ofString "name"),(Str.ofString "wires"),(Str.ofString "place"),(Str.ofString "wire")]
noncomputable def oO:{b:List Stmt // aj cb=b}:=by
 have e:aj cb=aj cb:=rfl
 conv at e=>rhs;whnf
 exact⟨_,e⟩
noncomputable def j7:{b:Scope // ae cb=b}:=by
 have e:ae cb=ae cb:=rfl
 conv at e=>rhs;whnf
 exact⟨_,e⟩
theorem bJ:bf fS [(Str.ofString "net")] j7.1:=⟨rfl,rfl,rfl,by decide+kernel,rfl,by decide+kernel,by decide+kernel⟩
noncomputable def gd:FZ:=(yz (cj 4) (xP (e2 cR (ag 7) (eC (.int 0)))) (xT (e2 xi (e2 cR (ag 4) (e2 cR (ag 7) (eC (.int 0)))) (e2 CZ (eC (.int 1)) (ag 5)))))
noncomputable def gf:FZ:=(yz (cj 4) (xP (ag 9)) (xT (e2 xi (e2 cR (ag 4) (ag 9)) (e2 cR (ag 4) (e2 fZ (aO eu (aw (ag 1) bb)) (ag 8))))))
noncomputable def gn:FZ:=(iq (iP (c0 (e2 cR (e2 cR (ag 2) (ag 8)) (eC (.int 1))))) (iV 9) gf)
noncomputable def iS:FZ:=(bu (FN (xP (ag 0)) (ve 3 (pG (iV 1) (pG (iV 2) (pG (iV 3) v8))))) (bu (cC 4 (m4 (C_ (fD (aw (eC (.int 0)) bb)) (e2 fZ (aO eu (aw (ag 1) bb)) (aO eu (aw (ag 2) bb)))))) (bu (iq (iP (gP (ag 3))) (ve 2 (pG (iV 5) (pG (ve 2 (pG (iV 6) (pG (iV 7) v8))) v8))) gd) (bu (iq (iP (Bf (e2 lJ (aO eu (aw (ag 2) bb)) (eC (.int 1))) (yp (eC (.int 1))) (yp (eC (.int 1))))) (iV 8) gn) (zg 4 (gz (xP (w9 (ag 4) (g9 (aO eu (aw (ag 1) bb))) iU))))))))
noncomputable def kl:List V3→aF→R3 V3:=l6 fS iS
noncomputable def fg:List V3→aF→R3 V3:=mF fS iS
theorem qo{P:Program}{w:World}{K:PySem.W.Frag}{mg:Str→Option Value}{base:Heap}{cl:Nat→Addr}(T:Tp K mg cl)(h:Def K mg (Str.ofString "_law_turning") cb):aH P w K mg base cl 1 (Str.ofString "_law_turning") 1 kl:=by
 obtain⟨f,fd,F,hm⟩:=h
 exact⟨f,fd,_,bW (k:=0) oO.2 j7.2 F bJ (fun cdv A outer s H E hr=>(au (Fo (ai (aa 0)) (jz rfl (bZ (aU bJ.nd rfl (Or.inl rfl)) (bZ (aU bJ.nd rfl (Or.inl rfl)) (bZ (aU bJ.nd rfl (Or.inl rfl)) ie))))) (au (bj bJ.nd rfl (Or.inl rfl) (g7 (C8 (dO (ah af av)) (aA iA (bo fv rfl T.z_len PySem.boot_len (ah (aa 1) av)) (bo fv rfl T.z_len PySem.boot_len (ah (aa 2) av)))))) (au (d9 PassesOwn.never rfl (cK (ku (aa 3) rfl T.z_enumerate)) (jz rfl (bZ (aU bJ.nd rfl (Or.inl rfl)) (bZ (jz rfl (bZ (aU bJ.nd rfl (Or.inl rfl)) (bZ (aU bJ.nd rfl (Or.inl rfl)) ie))) ie))) (aG (sV (fU (aA qr (aJ (aa 4) (aJ (aa 7) af (fun _ _=>rfl)) (fun _ _=>rfl)) (aA Hk af (aa 5)))) (sO (PX.go (bc 4)) (PX.go (ai (aJ (aa 7) af (fun _ _=>rfl)))) set_list)))) (au (d9 PassesOwn.never rfl (cK (BD (aA pq (bo fv rfl T.z_len PySem.boot_len (ah (aa 2) av)) af) (su af) (su af) rfl T.z_range)) (aU bJ.nd rfl (Or.inl rfl)) (aG (d9 PassesOwn.never rfl (cK (bG (aJ (aJ (aa 2) (aa 8) (fun _ _=>rfl)) af (fun _ _=>rfl)))) (aU bJ.nd rfl (Or.inl rfl)) (aG (sV (fU (aA qr (aJ (aa 4) (aa 9) (fun _ _=>rfl)) (aJ (aa 4) (aA iA (bo fv rfl T.z_len PySem.boot_len (ah (aa 1) av)) (aa 8)) (fun _ _=>rfl)))) (sO (PX.go (bc 4)) (PX.go (ai (aa 9))) set_list)))))) (xB 4 (aG (cU (ai (tH (aa 4) (l5 (bo fv rfl T.z_len PySem.boot_len (ah (aa 1) av))) mC)))))))))),hm,F.kp,F.binds fun _ _ _ _ _ _ us hl=>match us,hl with | [_],_=>rfl⟩
noncomputable abbrev nC:Stmt:=top 29
noncomputable abbrev md:List Str:=[(Str.ofString "script"),(Str.ofString "pots"),(Str.ofString "pot"),(Str.ofString "net"),(Str.ofString "most"),(Str.ofString "many"),(Str.ofString "level"),(Str.ofString "due"),(Str.ofString "heard")]
noncomputable def Fp:{b:List Stmt // aj nC=b}:=by
 have e:aj nC=aj nC:=rfl
 conv at e=>rhs;whnf
 exact⟨_,e⟩
noncomputable def rT:{b:Scope // ae nC=b}:=by
 have e:ae nC=ae nC:=rfl
 conv at e=>rhs;whnf
 exact⟨_,e⟩
theorem mn:bf md [(Str.ofString "script")] rT.1:=⟨rfl,rfl,rfl,by decide+kernel,rfl,by decide+kernel,by decide+kernel⟩
noncomputable def rF:FZ:=(bu (cC 1 (df fV (aC (xP (w9 (ag 0) iU (g9 (eC (.int 41))))) cN))) (bu (cC 2 (HM (cj 1) (xP (eC (.int 0))))) (bu (cC 3 (df eG (aC (cj 2) (aC (Fq (cj 1) (sI (xP (eC (.int 1)))) sT) cN)))) (bu (cC 4 (xP (e2 fZ (e2 fZ (eC (.int 1)) (aO nQ (aw (e2 vF (aO eu (aw (e2 cR (ag 3) (eC (.int 1))) bb)) (eC (.int 16))) bb))) (aO nQ (aw (e2 vF (aO eu (aw (e2 cR (ag 3) (eC (.int 1))) bb)) (eC (.int 12))) bb))))) (bu (cC 5 (x2 fZ (xP (eC (.int 1))) (df bx (aC (cj 2) (aC (xP (ag 4)) cN))))) (bu (cC 6 (HM (xP (eNew (fD (aw (eC (.str (Str.ofString "right"))) (aw (eC (.str (Str.ofString "safe"))) bb))))) (df bx (aC (cj 2) (aC (xP (eC (.int 2))) cN))))) (bu (cC 7 (k3 (zN (df fg (aC (xP (ag 3)) cN))) (ve 2 (pG (iV 0) (pG (iV 1) v8))) (bP (pS (b2 vd (ag 1) (eC (.int 0))) (kK (jR (e2 cR (e2 cR (e2 cR (ag 2) (eC (.int 1))) (ag 0)) (eC (.int 2))))))) (xP (ag 0)) [(Str.ofString "place"),(Str.ofString "mask")] [3])) (bu (cC 8 (df ky (aC (xP (ag 3)) (aC (xP (ag 5)) (aC (xP (ag 6)) cN))))) (bu (wm (bP (AZ (kK (jR (qx "tuple" (ag 8)))) (b2 vd (ag 8) (aO gm (aw (ag 7) bb))))) (gz (xP (eC (.bl false)))) mh) (gz (x2 mB (df dU (aC (xP (ag 3)) (aC (xP (ag 5)) (aC (xP (ag 6)) cN)))) (xP (eNew (et (c0 (ag 7)) (bg 0) jV (gh (aw (ag 0) bb)) [(Str.ofString "place")] []))))))))))))))
noncomputable def Jg:List V3→aF→R3 V3:=l6 md rF
noncomputable def JR:List V3→aF→R3 V3:=mF md rF
noncomputable def xt:List D→R D:=Ir md rF
structure Cf (K:PySem.W.Frag) (mg:Str→Option Value) (cl:Nat→Addr):Prop where
 C_Bench:tK K (cl 0)
 N_Bench_net:cO K (cl 0) (Str.ofString "net")
 N_Bench_many_inputs:cO K (cl 0) (Str.ofString "many_inputs")
 N_Bench_full:cO K (cl 0) (Str.ofString "full")
 N_Bench_in_masks:cO K (cl 0) (Str.ofString "in_masks")
 M_Bench:mg (Str.ofString "Bench")=some (.ref (cl 0))
 C_Trial:tK K (cl 1)
 N_Trial_bench:cO K (cl 1) (Str.ofString "bench")
 N_Trial_plain:cO K (cl 1) (Str.ofString "plain")
 N_Trial_unsure:cO K (cl 1) (Str.ofString "unsure")
 M_Trial:mg (Str.ofString "Trial")=some (.ref (cl 1))
 D_Bench___init__:yH K (cl 0) (Str.ofString "__init__") (Str.ofString "Bench.__init__") aX
 D_Bench_tells:tq K (cl 0) (Str.ofString "tells") (Str.ofString "Bench.tells") br
 D_Bench_readings:tq K (cl 0) (Str.ofString "readings") (Str.ofString "Bench.readings") aV
 D_Trial___init__:yH K (cl 1) (Str.ofString "__init__") (Str.ofString "Trial.__init__") aW
 D_Trial_breaks_at:tq K (cl 1) (Str.ofString "breaks_at") (Str.ofString "Trial.breaks_at") aQ
theorem He{K:PySem.W.Frag}{h:Heap}{mg:Str→Option Value}(X:K.In h)(G:h.Ns mainGlobals mg){C0:Addr}{C1:Addr}{f0:Addr}{od0 an0:Option Addr}{sl0:Array (Option Value)}{oc0 kV0 dc0 pm0 cd0 ct0:Value}{f1:Addr}{od1 an1:Option Addr}{sl1:Array (Option Value)}{oc1 kV1 dc1 pm1 cd1 ct1:Value}{f2:Addr}{od2 an2:Option Addr}{sl2:Array (Option Value)}{oc2 kV2 dc2 pm2 cd2 ct2:Value}{f3:Addr}{od3 an3:Option Addr}{sl3:Array (Option Value)}{oc3 kV3 dc3 pm3 cd3 ct3:Value}{f4:Addr}{od4 an4:Option Addr}{sl4:Array (Option Value)}{oc4 kV4 dc4 pm4 cd4 ct4:Value}(aC0:PySem.W.nsIn K mainGlobals (Str.ofString "Bench")=some (some (.ref C0)))(pg0:PySem.W.plainGet K C0 Str.empty=true)(hd0:PySem.W.hasDictIn K C0=true)(po0:PySem.W.plainOver K C0=true)(sa0:PySem.W.findIn K (.ref C0) "__setattr__"=some (some (.builtin "object.__setattr__")))(mk0:PySem.W.makesIn K C0=true)(kc0:PySem.W.keepIn K (.ref C0)=true)(n0_net:PySem.W.findIn K (.ref C0) (Str.ofString "net")=some none)(n0_many_inputs:PySem.W.findIn K (.ref C0) (Str.ofString "many_inputs")=some none)(n0_full:PySem.W.findIn K (.ref C0) (Str.ofString "full")=some none)(n0_in_masks:PySem.W.findIn K (.ref C0) (Str.ofString "in_masks")=some none)(aC1:PySem.W.nsIn K mainGlobals (Str.ofString "Trial")=some (some (.ref C1)))(pg1:PySem.W.plainGet K C1 Str.empty=true)(hd1:PySem.W.hasDictIn K C1=true)(po1:PySem.W.plainOver K C1=true)(sa1:PySem.W.findIn K (.ref C1) "__setattr__"=some (some (.builtin "object.__setattr__")))(mk1:PySem.W.makesIn K C1=true)(kc1:PySem.W.keepIn K (.ref C1)=true)(n1_bench:PySem.W.findIn K (.ref C1) (Str.ofString "bench")=some none)(n1_plain:PySem.W.findIn K (.ref C1) (Str.ofString "plain")=some none)(n1_unsure:PySem.W.findIn K (.ref C1) (Str.ofString "unsure")=some none)(a_Bench___init__:PySem.W.findIn K (.ref C0) (Str.ofString "__init__")=some (some (.ref f0)))(i_Bench___init__:PySem.W.isFn K (.ref f0)=true)(l_Bench___init__:K.lookup f0=some ⟨oc0,od0, .func (PySem.W.fnOf (Str.ofString "__init__") (Str.ofString "Bench.__init__") (fR aX) (aj aX) (ae aX) .none kV0 dc0 pm0 an0 cd0 ct0),sl0⟩)(dt:PySem.W.codeIn K cd0 (Str.ofString "Bench.__init__")=true)(k_Bench___init__:PySem.W.keepIn K (.ref f0)=true)(a_Bench_tells:PySem.W.findIn K (.ref C0) (Str.ofString "tells")=some (some (.ref f1)))(i_Bench_tells:PySem.W.isFn K (.ref f1)=true)(l_Bench_tells:K.lookup f1=some ⟨oc1,od1, .func (PySem.W.fnOf (Str.ofString "tells") (Str.ofString "Bench.tells") (fR br) (aj br) (ae br) .none kV1 dc1 pm1 an1 cd1 ct1),sl1⟩)(eE:PySem.W.codeIn K cd1 (Str.ofString "Bench.tells")=true)(k_Bench_tells:PySem.W.keepIn K (.ref f1)=true)(a_Bench_readings:PySem.W.findIn K (.ref C0) (Str.ofString "readings")=some (some (.ref f2)))(i_Bench_readings:PySem.W.isFn K (.ref f2)=true)(l_Bench_readings:K.lookup f2=some ⟨oc2,od2, .func (PySem.W.fnOf (Str.ofString "readings") (Str.ofString "Bench.readings") (fR aV) (aj aV) (ae aV) .none kV2 dc2 pm2 an2 cd2 ct2),sl2⟩)(di:PySem.W.codeIn K cd2 (Str.ofString "Bench.readings")=true)(k_Bench_readings:PySem.W.keepIn K (.ref f2)=true)(a_Trial___init__:PySem.W.findIn K (.ref C1) (Str.ofString "__init__")=some (some (.ref f3)))(i_Trial___init__:PySem.W.isFn K (.ref f3)=true)(l_Trial___init__:K.lookup f3=some ⟨oc3,od3, .func (PySem.W.fnOf (Str.ofString "__init__") (Str.ofString "Trial.__init__") (fR aW) (aj aW) (ae aW) .none kV3 dc3 pm3 an3 cd3 ct3),sl3⟩)(dq:PySem.W.codeIn K cd3 (Str.ofString "Trial.__init__")=true)(k_Trial___init__:PySem.W.keepIn K (.ref f3)=true)(a_Trial_breaks_at:PySem.W.findIn K (.ref C1) (Str.ofString "breaks_at")=some (some (.ref f4)))(i_Trial_breaks_at:PySem.W.isFn K (.ref f4)=true)(l_Trial_breaks_at:K.lookup f4=some ⟨oc4,od4, .func (PySem.W.fnOf (Str.ofString "breaks_at") (Str.ofString "Trial.breaks_at") (fR aQ) (aj aQ) (ae aQ) .none kV4 dc4 pm4 an4 cd4 ct4),sl4⟩)(c6:PySem.W.codeIn K cd4 (Str.ofString "Trial.breaks_at")=true)(k_Trial_breaks_at:PySem.W.keepIn K (.ref f4)=true):∃cl,Cf K mg cl:=by
 exact⟨fun n=>if n=0 then C0 else C1,⟨pg0,hd0,po0,sa0⟩,n0_net,n0_many_inputs,n0_full,n0_in_masks,PySem.W.mg_of X G aC0,⟨pg1,hd1,po1,sa1⟩,n1_bench,n1_plain,n1_unsure,PySem.W.mg_of X G aC1,⟨_,_,nj (st:=aX) l_Bench___init__ dt k_Bench___init__,⟨mk0,a_Bench___init__,i_Bench___init__,kc0⟩⟩,⟨_,_,nj (st:=br) l_Bench_tells eE k_Bench_tells,⟨a_Bench_tells,i_Bench_tells,k_Bench_tells⟩⟩,⟨_,_,nj (st:=aV) l_Bench_readings di k_Bench_readings,⟨a_Bench_readings,i_Bench_readings,k_Bench_readings⟩⟩,⟨_,_,nj (st:=aW) l_Trial___init__ dq k_Trial___init__,⟨mk1,a_Trial___init__,i_Trial___init__,kc1⟩⟩,⟨_,_,nj (st:=aQ) l_Trial_breaks_at c6 k_Trial_breaks_at,⟨a_Trial_breaks_at,i_Trial_breaks_at,k_Trial_breaks_at⟩⟩⟩
theorem GA{P:Program}{w:World}{K:PySem.W.Frag}{mg:Str→Option Value}{base:Heap}{f:Addr}{fd:FuncData}{cl:Nat→Addr}(T:Tp K mg cl)(D_vote_of:Def K mg (Str.ofString "vote_of") ee)(D_gate_mask:Def K mg (Str.ofString "gate_mask") cW)(D_in_wire_masks:Def K mg (Str.ofString "in_wire_masks") bF)(D_masks_at:Def K mg (Str.ofString "masks_at") dA)(D_wire_masks:Def K mg (Str.ofString "wire_masks") cy)(D_out_masks:Def K mg (Str.ofString "out_masks") cZ)(D_reading:Def K mg (Str.ofString "reading") en)(D_all_inputs:Def K mg (Str.ofString "all_inputs") cz)(D_mask_of:Def K mg (Str.ofString "mask_of") eg)(D_in_mask:Def K mg (Str.ofString "in_mask") eh)(D_choices:Def K mg (Str.ofString "choices") er)(D_has_all:Def K mg (Str.ofString "has_all") d_)(D_Bench___init__:yH K (cl 0) (Str.ofString "__init__") (Str.ofString "Bench.__init__") aX)(D_Bench_tells:tq K (cl 0) (Str.ofString "tells") (Str.ofString "Bench.tells") br)(D_Bench_readings:tq K (cl 0) (Str.ofString "readings") (Str.ofString "Bench.readings") aV)(D_Trial___init__:yH K (cl 1) (Str.ofString "__init__") (Str.ofString "Trial.__init__") aW)(D_Trial_breaks_at:tq K (cl 1) (Str.ofString "breaks_at") (Str.ofString "Trial.breaks_at") aQ)(D_breaking:Def K mg (Str.ofString "breaking") dD)(D_count_apart:Def K mg (Str.ofString "count_apart") b8)(D_behind:Def K mg (Str.ofString "behind") e8)(D_groups_left:Def K mg (Str.ofString "groups_left") b_)(D_first_places:Def K mg (Str.ofString "first_places") bK)(D_surest:Def K mg (Str.ofString "surest") eT)(D_law_next:Def K mg (Str.ofString "_law_next") dE)(D_law_pots:Def K mg (Str.ofString "_law_pots") dC)(D_law_some_net:Def K mg (Str.ofString "_law_some_net") bO)(D_law_turning:Def K mg (Str.ofString "_law_turning") cb)(F:xQ K (Str.ofString "law") (Str.ofString "law") nC f fd):f_ P w K mg base qk 47 f fd [Str.ofString "script"] (A1 K 1 xt):=by
 have C_vote_of:Callee P w K mg base 1 (Str.ofString "vote_of") 1 eM:=yZ T D_vote_of
 have C_gate_mask:Callee P w K mg base 2 (Str.ofString "gate_mask") 3 eN:=uM T D_gate_mask C_vote_of
 have XK_in_wire_masks:aH P w K mg base cl 1 (Str.ofString "in_wire_masks") 4 cD:=n9 T D_in_wire_masks
 have XP_in_wire_masks:aH P w K mg base cl 1 (Str.ofString "in_wire_masks") 4 mJ:=XK_in_wire_masks.p
 have C_masks_at:Callee P w K mg base 1 (Str.ofString "masks_at") 2 d3:=vn T D_masks_at
 have XK_wire_masks:aH P w K mg base cl 3 (Str.ofString "wire_masks") 5 kO:=rV T D_wire_masks C_masks_at C_gate_mask XK_in_wire_masks
 have XP_wire_masks:aH P w K mg base cl 3 (Str.ofString "wire_masks") 5 eF:=XK_wire_masks.p
 have XK_out_masks:aH P w K mg base cl 2 (Str.ofString "out_masks") 2 l8:=tP T D_out_masks C_masks_at
 have XP_out_masks:aH P w K mg base cl 2 (Str.ofString "out_masks") 2 eY:=XK_out_masks.p
 have C_reading:Callee P w K mg base 2 (Str.ofString "reading") 2 gE:=yF T D_reading C_vote_of
 have XK_all_inputs:aH P w K mg base cl 1 (Str.ofString "all_inputs") 1 kQ:=sJ T D_all_inputs
 have XP_all_inputs:aH P w K mg base cl 1 (Str.ofString "all_inputs") 1 eD:=XK_all_inputs.p
 have C_mask_of:Callee P w K mg base 1 (Str.ofString "mask_of") 1 eP:=yq T D_mask_of
 have C_in_mask:Callee P w K mg base 2 (Str.ofString "in_mask") 2 gG:=yA T D_in_mask C_mask_of
 have C_choices:Callee P w K mg base 5 (Str.ofString "choices") 2 (du 4):=qZ T D_choices 4
 have C_has_all:Callee P w K mg base 1 (Str.ofString "has_all") 2 fK:=yI T D_has_all
 have XK_Bench___init__:pU P w K mg base cl 3 0 (Str.ofString "Bench") 1 cn:=dt T D_Bench___init__ C_mask_of C_in_mask XP_all_inputs
 have XK_Bench_tells:fW P w K mg base cl 4 0 (Str.ofString "tells") 2 jX:=eE T D_Bench_tells XP_wire_masks XP_out_masks
 have XP_Bench_tells:fW P w K mg base cl 4 0 (Str.ofString "tells") 2 dY:=XK_Bench_tells.p
 have XK_Bench_readings:fW P w K mg base cl 5 0 (Str.ofString "readings") 1 iE:=di T D_Bench_readings C_reading XP_Bench_tells
 have XP_Bench_readings:fW P w K mg base cl 5 0 (Str.ofString "readings") 1 bN:=XK_Bench_readings.p
 have XK_Trial___init__:pU P w K mg base cl 6 1 (Str.ofString "Trial") 1 cm:=dq T D_Trial___init__ XK_Bench___init__ XP_Bench_readings
 have XK_Trial_breaks_at:fW P w K mg base cl 6 1 (Str.ofString "breaks_at") 2 gK:=c6 T D_Trial_breaks_at XP_Bench_readings
 have XP_Trial_breaks_at:fW P w K mg base cl 6 1 (Str.ofString "breaks_at") 2 cP:=XK_Trial_breaks_at.p
 have XK_breaking:aH P w K mg base cl 8 (Str.ofString "breaking") 3 iC:=vI T D_breaking C_choices C_has_all XK_Trial___init__ XP_Trial_breaks_at
 have XP_breaking:aH P w K mg base cl 8 (Str.ofString "breaking") 3 dU:=XK_breaking.p
 have XK_count_apart:aH P w K mg base cl 1 (Str.ofString "count_apart") 1 kh:=qA T D_count_apart
 have XP_count_apart:aH P w K mg base cl 1 (Str.ofString "count_apart") 1 dZ:=XK_count_apart.p
 have C_behind:Callee P w K mg base 1 (Str.ofString "behind") 2 jb:=zI T D_behind
 have C_groups_left:Callee P w K mg base 2 (Str.ofString "groups_left") 2 dM:=qt T D_groups_left C_behind
 have XP_first_places:aH P w K mg base cl 45 (Str.ofString "first_places") 2 (bS 42):=jS T D_first_places C_groups_left XP_count_apart 42
 have XK_surest:aH P w K mg base cl 46 (Str.ofString "surest") 3 rJ:=A7 T D_surest XP_breaking XP_first_places
 have XP_surest:aH P w K mg base cl 46 (Str.ofString "surest") 3 ky:=XK_surest.p
 have XK_law_next:aH P w K mg base cl 1 (Str.ofString "_law_next") 2 nD:=vw T D_law_next
 have XP_law_next:aH P w K mg base cl 1 (Str.ofString "_law_next") 2 bx:=XK_law_next.p
 have XK_law_pots:aH P w K mg base cl 1 (Str.ofString "_law_pots") 1 fV:=vG T D_law_pots
 have XP_law_pots:aH P w K mg base cl 1 (Str.ofString "_law_pots") 1 t8:=XK_law_pots.p
 have XK_law_some_net:aH P w K mg base cl 2 (Str.ofString "_law_some_net") 2 jL:=pF T D_law_some_net XP_law_next
 have XP_law_some_net:aH P w K mg base cl 2 (Str.ofString "_law_some_net") 2 eG:=XK_law_some_net.p
 have XK_law_turning:aH P w K mg base cl 1 (Str.ofString "_law_turning") 1 kl:=qo T D_law_turning
 have XP_law_turning:aH P w K mg base cl 1 (Str.ofString "_law_turning") 1 fg:=XK_law_turning.p
 exact(bW (cl:=cl) (N:=md) (F:=rF) (k:=46) Fp.2 rT.2 F mn (fun cdv A outer s H E hr=>(au (bj mn.nd rfl (Or.inl rfl) (bR XK_law_pots hr (by decide) rfl (ak (ai (tH (aa 0) mC (l5 af))) aR) (ao ba))) (au (bj mn.nd rfl (Or.inl rfl) (D2 (bc 1) (ai af) (fun _ _=>rfl))) (au (bj mn.nd rfl (Or.inr rfl) (bR XP_law_some_net hr (by decide) rfl (ak (bc 2) (ak (FL (bc 1) (t7 (ai af)) tT) aR)) (ao (ao ba)))) (au (bj mn.nd rfl (Or.inl rfl) (ai (aA iA (aA iA af (gR A_ rfl T.z_int PyProof.Rows.boot_int (ah (sQ EA (bo fv rfl T.z_len PySem.boot_len (ah (aJ (aa 3) af (fun _ _=>rfl)) av)) af (cJ _)) av))) (gR A_ rfl T.z_int PyProof.Rows.boot_int (ah (sQ EA (bo fv rfl T.z_len PySem.boot_len (ah (aJ (aa 3) af (fun _ _=>rfl)) av)) af (cJ _)) av))))) (au (bj mn.nd rfl (Or.inl rfl) (rM iA (ai af) (bR XP_law_next hr (by decide) rfl (ak (bc 2) (ak (ai (aa 4)) aR)) (ao (ao ba))))) (au (bj mn.nd rfl (Or.inl rfl) (D2 (ai (dy (dO (ah cX (ah cX av))))) (bR XP_law_next hr (by decide) rfl (ak (bc 2) (ak (ai af) aR)) (ao (ao ba))) (fun _ _=>rfl))) (au (ph rfl mn.nd rfl rfl (bM.of (own:=[(Str.ofString "place"),(Str.ofString "mask")]) (kp:=[3]) (kn:=[(Str.ofString "net")]) (sc:=rT.1) (N:=md) rfl rfl (by decide+kernel)) (Bq (bR XP_law_turning hr (by decide) rfl (ak (ai (aa 3)) aR) (ao ba)) rfl T.z_enumerate) (fun _ _ _=>(jz rfl (bZ (aU (show List.Nodup [(Str.ofString "place"),(Str.ofString "mask"),(Str.ofString "net")] from by decide+kernel) rfl (Or.inl rfl)) (bZ (aU (show List.Nodup [(Str.ofString "place"),(Str.ofString "mask"),(Str.ofString "net")] from by decide+kernel) rfl (Or.inl rfl)) ie)))) (fun _ _ _=>(zw (eR (xX (Av (cw (F6 hr.units) (aa 1) af (cJ _)) (yx (oA (l3 (aJ (aJ (aJ (aa 2) af (fun _ _=>rfl)) (aa 0) (fun _ _=>rfl)) af (fun _ _=>rfl)))))))))) (fun _ _ _=>(ai (aa 0)))) (au (bj mn.nd rfl (Or.inl rfl) (bR XP_surest hr (by decide) rfl (ak (ai (aa 3)) (ak (ai (aa 5)) (ak (ai (aa 6)) aR))) (ao (ao (ao ba))))) (au (j8 (eR (xX (DQ (oA (l3 (CT (aa 8) (by decide) rfl T.z_isinstance rfl T.z_tuple PyProof.Rows.boot_tuple))) (zS (cw (F6 hr.units) (aa 8) (gR xk rfl T.z_tuple PyProof.Rows.boot_tuple (ah (aa 7) av)) (cJ _)))))) (aG (cU (ai vQ))) fQ) (aG (cU (AJ (oV hr.units) (bR XP_breaking hr (by decide) rfl (ak (ai (aa 3)) (ak (ai (aa 5)) (ak (ai (aa 6)) aR))) (ao (ao (ao ba)))) (ai (dy (dn rfl (bM.of (own:=[(Str.ofString "place")]) (kp:=[]) (kn:=[]) (sc:=rT.1) (N:=md) rfl rfl (by decide+kernel)) (bG (aa 7)) (fun _ _ _=>(bz (show List.Nodup [(Str.ofString "place")] from by decide+kernel) rfl (Or.inl rfl))) (fun _ _ _=>dN) (fun _ _ _=>(ef (ah (aa 0) av)))))) (cJ _))))))))))))))).imp fun _ _ _ _ h=>F3 h
end K23
end
section
set_option maxRecDepth 100000
set_option maxHeartbeats 4000000
namespace K23
open PySem PySem.Spec PyProof.Rows L2 L3
theorem yg{S:aF}{k:Nat}{o x:SO}(h:S[k]? =some x):(S.set k o)[k]? =some o:=by
 obtain⟨h1,_⟩:=List.getElem?_eq_some_iff.mp h
 rw[List.getElem?_set_self h1]
noncomputable def wc(k:Nat)(S:aF):Prop:=Flat S∧∃a c,S[k]? =some (.lst [.int a, .int c])
structure Ev (k:Nat) (S S1:aF):Prop where
 p:wc k S1
 len:S1.length=S.length
 oth:∀j,j≠k→S1[j]? =S[j]?
theorem wc.lt{k:Nat}{S:aF}(p:wc k S):k < S.length:=by
 obtain⟨_,a,c,e⟩:=p
 exact(List.getElem?_eq_some_iff.mp e).1
theorem rp(ds:List D):∀n,ll n (.lst ds)=true:=fun _=>rfl
theorem Dx{S:aF}{k:Nat}{m:Int}(p:wc k S)(hm:0 < m)(hm2:m < 1000000){Q:V3→aF→Prop}
 (h:∀(r:Int) S1,0≤r→r < m→wc k S1→S1.length=S.length→(∀j,j≠k→S1[j]? =S[j]?)→Q (.d (.int r)) S1):W3 (bx [.loc k, .d (.int m)] S) Q:=by
 obtain⟨hL,a,c,e⟩:=p
 unfold bx
 refine AX (vc rfl ?_)
 simp only[bE,jC,List.map_cons,List.map_nil,List.length_cons,List.length_nil,List.replicate,List.cons_append,List.nil_append,Nat.reduceAdd,Nat.reduceSub]
 unfold k_
 refine aY (xI (BQ (d:= .int (c+1)) ?_ rfl ?_))
 ·simp (implicitDefEqProofs:=false) (disch:=first | omega | decide) only[oz,dk,gg,lC,m_,nV,p_,vf,pC,fM,tj,lz,vq,ag,eC,e2,eNew,o4,aO,gh,xh,w9,F8,js,vO,vH,Gz,vm,w_,qx,mr,BS,b2,pO,pS,AZ,kK,jR,fD,nList,bb,aw,we,pz,iU,g9,fZ,lJ,jN,jQ,sC,vv,Gh,vF,zq,Dl,mX,tJ,ze,kJ,mB,vd,tV,gQ,cInt,cStr,qG,gm,kU,eu,uG,qf,bg,ip,c7,g_,i5,gq,sG,D.atom,tyName,R.aP,R.fF,List.map_cons,List.map_nil,List.map_append,List.set_cons_zero,List.set_cons_succ,List.getElem?_cons_zero,List.getElem?_cons_succ,List.length_cons,List.length_nil,List.nil_append,List.cons_append,List.append_nil,List.length_map,List.length_append,List.replicate,Nat.reduceAdd,Nat.reduceSub,Nat.zero_add,decide_true,decide_false,Nat.lt_add_one,Nat.reduceLT,Nat.reduceLeDiff,Nat.reduceEqDiff,if_true,if_false,Bool.false_eq_true,ite_true,ite_false,Bool.true_or,Bool.or_true,Bool.true_and,Bool.and_true,beq_self_eq_true,down,cT,res,k9,bE,fY,kX,iV,ve,pG,v8,Option.map_some,Option.bind_some,eO,cq,qj,ke,hJ,jm,bQ,decide_eq_true_eq,Int.reduceToNat,e,cR,nR]
  rfl
 refine w_var (v:= .loc k) rfl (cF (d:= .int 1) rfl ⟨_,k,1,[.int a, .int c],1,rfl,rfl,rfl,e,rfl,_,rfl,?_⟩)
 simp only[List.set_cons_succ,List.set_cons_zero]
 have e1:(S.set k (.lst [.int a, .int (c+1)]))[k]? =some (.lst [.int a, .int (c+1)]):=yg e
 have hL1:Flat (S.set k (.lst [.int a, .int (c+1)])):=hL.set _ (rp _)
 have hl1:(S.set k (.lst [.int a, .int (c+1)])).length=S.length:=List.length_set
 have ho:∀j,j≠k→(S.set k (.lst [.int a, .int (c+1)]))[j]? =S[j]?:=fun j hj=>List.getElem?_set_ne (Ne.symm hj)
 generalize S.set k (.lst [.int a, .int (c+1)])=S1 at e1 hL1 hl1 ho
 refine aY (bC (by simp only[List.length_cons,List.length_nil,List.length_set];omega) (BQ (d:= .int a) ?_ rfl ⟨_,rfl,?_⟩))
 ·simp (implicitDefEqProofs:=false) (disch:=first | omega | decide) only[oz,dk,gg,lC,m_,nV,p_,vf,pC,fM,tj,lz,vq,ag,eC,e2,eNew,o4,aO,gh,xh,w9,F8,js,vO,vH,Gz,vm,w_,qx,mr,BS,b2,pO,pS,AZ,kK,jR,fD,nList,bb,aw,we,pz,iU,g9,fZ,lJ,jN,jQ,sC,vv,Gh,vF,zq,Dl,mX,tJ,ze,kJ,mB,vd,tV,gQ,cInt,cStr,qG,gm,kU,eu,uG,qf,bg,ip,c7,g_,i5,gq,sG,D.atom,tyName,R.aP,R.fF,List.map_cons,List.map_nil,List.map_append,List.set_cons_zero,List.set_cons_succ,List.getElem?_cons_zero,List.getElem?_cons_succ,List.length_cons,List.length_nil,List.nil_append,List.cons_append,List.append_nil,List.length_map,List.length_append,List.replicate,Nat.reduceAdd,Nat.reduceSub,Nat.zero_add,decide_true,decide_false,Nat.lt_add_one,Nat.reduceLT,Nat.reduceLeDiff,Nat.reduceEqDiff,if_true,if_false,Bool.false_eq_true,ite_true,ite_false,Bool.true_or,Bool.or_true,Bool.true_and,Bool.and_true,beq_self_eq_true,down,cT,res,k9,bE,fY,kX,iV,ve,pG,v8,Option.map_some,Option.bind_some,eO,cq,qj,ke,hJ,jm,bQ,decide_eq_true_eq,Int.reduceToNat,e1,cR,nR]
  rfl
 simp only[List.set_cons_succ,List.set_cons_zero]
 have fin:∀(r:Int) S2,0≤r→r < m→wc k S2→S2.length=S1.length→(∀j,j≠k→S2[j]? =S1[j]?)→Flat S2∧eQ S.length (.d (.int r))=true∧∃d,res S2 (.d (.int r))=some d∧Q (.d d) (S2.take S.length):=fun r S2 h1 h2 p2 hl hj=>by
  refine⟨p2.1,by unfold eQ;rfl, .int r,by unfold res;rfl,?_⟩
  rw[List.take_of_length_le (by omega)]
  exact h r S2 h1 h2 p2 (by omega) fun j hj'=>(hj j hj').trans (ho j hj')
 by_cases hc:(1000000000000000000:Int)≤a
 ·refine Ai (kN (lU (b:=true) ?_ ?_))
  ·simp (implicitDefEqProofs:=false) (disch:=first | omega | decide) only[oz,dk,gg,lC,m_,nV,p_,vf,pC,fM,tj,lz,vq,ag,eC,e2,eNew,o4,aO,gh,xh,w9,F8,js,vO,vH,Gz,vm,w_,qx,mr,BS,b2,pO,pS,AZ,kK,jR,fD,nList,bb,aw,we,pz,iU,g9,fZ,lJ,jN,jQ,sC,vv,Gh,vF,zq,Dl,mX,tJ,ze,kJ,mB,vd,tV,gQ,cInt,cStr,qG,gm,kU,eu,uG,qf,bg,ip,c7,g_,i5,gq,sG,D.atom,tyName,R.aP,R.fF,List.map_cons,List.map_nil,List.map_append,List.set_cons_zero,List.set_cons_succ,List.getElem?_cons_zero,List.getElem?_cons_succ,List.length_cons,List.length_nil,List.nil_append,List.cons_append,List.append_nil,List.length_map,List.length_append,List.replicate,Nat.reduceAdd,Nat.reduceSub,Nat.zero_add,decide_true,decide_false,Nat.lt_add_one,Nat.reduceLT,Nat.reduceLeDiff,Nat.reduceEqDiff,if_true,if_false,Bool.false_eq_true,ite_true,ite_false,Bool.true_or,Bool.or_true,Bool.true_and,Bool.and_true,beq_self_eq_true,down,cT,res,k9,bE,fY,kX,iV,ve,pG,v8,Option.map_some,Option.bind_some,eO,cq,qj,ke,hJ,jm,bQ,decide_eq_true_eq,Int.reduceToNat,hc]
   simp [hc]
  rw[if_pos rfl]
  refine aY (xI (cF (d:= .int (a / m)) ?_ (w_var (v:= .loc k) rfl (cF (d:= .int 0) rfl ⟨_,k,0,_,0,rfl,rfl,rfl,e1,rfl,_,rfl,?_⟩))))
  ·exact az (a:= .int a) (b:= .int m) rfl rfl (Cm hm (by omega))
  refine eA (cF (d:= .int (a % m)) (az (a:= .int a) (b:= .int m) rfl rfl (BP hm)) ⟨_,rfl,_,rfl,?_⟩)
  exact fin _ _ (Int.emod_nonneg _ (by omega)) (Int.emod_lt_of_pos _ hm) ⟨hL1.set _ (rp _),_,_,yg e1⟩ List.length_set fun j hj=>List.getElem?_set_ne (Ne.symm hj)
 ·refine aY (kN (lU (b:=false) ?_ ?_))
  ·simp (implicitDefEqProofs:=false) (disch:=first | omega | decide) only[oz,dk,gg,lC,m_,nV,p_,vf,pC,fM,tj,lz,vq,ag,eC,e2,eNew,o4,aO,gh,xh,w9,F8,js,vO,vH,Gz,vm,w_,qx,mr,BS,b2,pO,pS,AZ,kK,jR,fD,nList,bb,aw,we,pz,iU,g9,fZ,lJ,jN,jQ,sC,vv,Gh,vF,zq,Dl,mX,tJ,ze,kJ,mB,vd,tV,gQ,cInt,cStr,qG,gm,kU,eu,uG,qf,bg,ip,c7,g_,i5,gq,sG,D.atom,tyName,R.aP,R.fF,List.map_cons,List.map_nil,List.map_append,List.set_cons_zero,List.set_cons_succ,List.getElem?_cons_zero,List.getElem?_cons_succ,List.length_cons,List.length_nil,List.nil_append,List.cons_append,List.append_nil,List.length_map,List.length_append,List.replicate,Nat.reduceAdd,Nat.reduceSub,Nat.zero_add,decide_true,decide_false,Nat.lt_add_one,Nat.reduceLT,Nat.reduceLeDiff,Nat.reduceEqDiff,if_true,if_false,Bool.false_eq_true,ite_true,ite_false,Bool.true_or,Bool.or_true,Bool.true_and,Bool.and_true,beq_self_eq_true,down,cT,res,k9,bE,fY,kX,iV,ve,pG,v8,Option.map_some,Option.bind_some,eO,cq,qj,ke,hJ,jm,bQ,decide_eq_true_eq,Int.reduceToNat,hc]
   simp [hc]
  rw[if_neg (by decide)]
  refine h_ ⟨_,rfl,?_⟩
  refine aY (bC (by simp only[List.length_cons,List.length_nil,List.length_set];omega) (BQ (d:= .int ((a*69621+(c+1)*7919+13) % 2147483647)) ?_ rfl ⟨_,rfl,?_⟩))
  ·have hi:cR (.lst [.int a, .int (c+1)]) (.int 1)= .ok (.int (c+1)):=rfl
   simp (implicitDefEqProofs:=false) (disch:=first | omega | decide) only[oz,dk,gg,lC,m_,nV,p_,vf,pC,fM,tj,lz,vq,ag,eC,e2,eNew,o4,aO,gh,xh,w9,F8,js,vO,vH,Gz,vm,w_,qx,mr,BS,b2,pO,pS,AZ,kK,jR,fD,nList,bb,aw,we,pz,iU,g9,fZ,lJ,jN,jQ,sC,vv,Gh,vF,zq,Dl,mX,tJ,ze,kJ,mB,vd,tV,gQ,cInt,cStr,qG,gm,kU,eu,uG,qf,bg,ip,c7,g_,i5,gq,sG,D.atom,tyName,R.aP,R.fF,List.map_cons,List.map_nil,List.map_append,List.set_cons_zero,List.set_cons_succ,List.getElem?_cons_zero,List.getElem?_cons_succ,List.length_cons,List.length_nil,List.nil_append,List.cons_append,List.append_nil,List.length_map,List.length_append,List.replicate,Nat.reduceAdd,Nat.reduceSub,Nat.zero_add,decide_true,decide_false,Nat.lt_add_one,Nat.reduceLT,Nat.reduceLeDiff,Nat.reduceEqDiff,if_true,if_false,Bool.false_eq_true,ite_true,ite_false,Bool.true_or,Bool.or_true,Bool.true_and,Bool.and_true,beq_self_eq_true,down,cT,res,k9,bE,fY,kX,iV,ve,pG,v8,Option.map_some,Option.bind_some,eO,cq,qj,ke,hJ,jm,bQ,decide_eq_true_eq,Int.reduceToNat,e1,hi]
  simp only[List.set_cons_succ,List.set_cons_zero]
  have hx1:0≤(a*69621+(c+1)*7919+13) % 2147483647:=Int.emod_nonneg _ (by omega)
  have hx2:(a*69621+(c+1)*7919+13) % 2147483647 < 2147483647:=Int.emod_lt_of_pos _ (by omega)
  generalize (a*69621+(c+1)*7919+13) % 2147483647=x at hx1 hx2
  refine aY (bC (by simp only[List.length_cons,List.length_nil,List.length_set];omega) (cF (d:= .int (x*x % 2147483629)) ?_ ⟨_,rfl,?_⟩))
  ·simp (implicitDefEqProofs:=false) (disch:=first | omega | decide) only[oz,dk,gg,lC,m_,nV,p_,vf,pC,fM,tj,lz,vq,ag,eC,e2,eNew,o4,aO,gh,xh,w9,F8,js,vO,vH,Gz,vm,w_,qx,mr,BS,b2,pO,pS,AZ,kK,jR,fD,nList,bb,aw,we,pz,iU,g9,fZ,lJ,jN,jQ,sC,vv,Gh,vF,zq,Dl,mX,tJ,ze,kJ,mB,vd,tV,gQ,cInt,cStr,qG,gm,kU,eu,uG,qf,bg,ip,c7,g_,i5,gq,sG,D.atom,tyName,R.aP,R.fF,List.map_cons,List.map_nil,List.map_append,List.set_cons_zero,List.set_cons_succ,List.getElem?_cons_zero,List.getElem?_cons_succ,List.length_cons,List.length_nil,List.nil_append,List.cons_append,List.append_nil,List.length_map,List.length_append,List.replicate,Nat.reduceAdd,Nat.reduceSub,Nat.zero_add,decide_true,decide_false,Nat.lt_add_one,Nat.reduceLT,Nat.reduceLeDiff,Nat.reduceEqDiff,if_true,if_false,Bool.false_eq_true,ite_true,ite_false,Bool.true_or,Bool.or_true,Bool.true_and,Bool.and_true,beq_self_eq_true,down,cT,res,k9,bE,fY,kX,iV,ve,pG,v8,Option.map_some,Option.bind_some,eO,cq,qj,ke,hJ,jm,bQ,decide_eq_true_eq,Int.reduceToNat]
  simp only[List.set_cons_succ,List.set_cons_zero]
  generalize x*x % 2147483629=y
  refine eA (BQ (d:= .int ((y*48271+(c+1)*40692) % 2147483587 / 8 % m)) ?_ rfl ⟨_,rfl,?_⟩)
  ·have hi:cR (.lst [.int a, .int (c+1)]) (.int 1)= .ok (.int (c+1)):=rfl
   simp (implicitDefEqProofs:=false) (disch:=first | omega | decide) only[oz,dk,gg,lC,m_,nV,p_,vf,pC,fM,tj,lz,vq,ag,eC,e2,eNew,o4,aO,gh,xh,w9,F8,js,vO,vH,Gz,vm,w_,qx,mr,BS,b2,pO,pS,AZ,kK,jR,fD,nList,bb,aw,we,pz,iU,g9,fZ,lJ,jN,jQ,sC,vv,Gh,vF,zq,Dl,mX,tJ,ze,kJ,mB,vd,tV,gQ,cInt,cStr,qG,gm,kU,eu,uG,qf,bg,ip,c7,g_,i5,gq,sG,D.atom,tyName,R.aP,R.fF,List.map_cons,List.map_nil,List.map_append,List.set_cons_zero,List.set_cons_succ,List.getElem?_cons_zero,List.getElem?_cons_succ,List.length_cons,List.length_nil,List.nil_append,List.cons_append,List.append_nil,List.length_map,List.length_append,List.replicate,Nat.reduceAdd,Nat.reduceSub,Nat.zero_add,decide_true,decide_false,Nat.lt_add_one,Nat.reduceLT,Nat.reduceLeDiff,Nat.reduceEqDiff,if_true,if_false,Bool.false_eq_true,ite_true,ite_false,Bool.true_or,Bool.or_true,Bool.true_and,Bool.and_true,beq_self_eq_true,down,cT,res,k9,bE,fY,kX,iV,ve,pG,v8,Option.map_some,Option.bind_some,eO,cq,qj,ke,hJ,jm,bQ,decide_eq_true_eq,Int.reduceToNat,e1,hi]
  exact fin _ _ (Int.emod_nonneg _ (by omega)) (Int.emod_lt_of_pos _ hm) ⟨hL1,_,_,e1⟩ rfl fun j hj=>rfl
section
variable {S:aF} {δ:DE} {k i:Nat}
theorem draw{Q:V3→aF→Prop}{f:FD}{m:Int}(hv:δ[i]? =some (some (.loc k)))(p:wc k S)(hf:f (down δ)= .ok (.int m))(hm:0 < m)(hm2:m < 1000000)
 (h:∀(r:Int) S1,0≤r→r < m→Ev k S S1→Q (.d (.int r)) S1):W3 (df bx (aC (cj i) (aC (xP f) cN)) δ S) Q:=
 eK (aI (w_var hv (aI (cF hf (cH (Dx p hm hm2 fun r S1 h1 h2 p1 hl ho=>h r S1 h1 h2 ⟨p1,hl,ho⟩))))))
end
end K23
end
section
set_option maxRecDepth 100000
set_option maxHeartbeats 4000000
namespace K23
open PySem PySem.Spec PyProof.Rows L2 L3 MT
theorem y9{a:D}{r:List D}:cR (.tup (a ::r)) (.int 0)= .ok a:=sU (by rw[mZ (by omega) (by simp)];rfl)
theorem AK{a b:D}{r:List D}:cR (.tup (a ::b ::r)) (.int 1)= .ok b:=sU (by rw[mZ (by omega) (by simp)];rfl)
theorem Kj{a b c:D}{r:List D}:cR (.tup (a ::b ::c ::r)) (.int 2)= .ok c:=sU (by rw[mZ (by omega) (by simp)];rfl)
theorem x8{N:Nat}{a b c:M}:eM [.tup [mI N a,mI N b,mI N c]]= .ok (mI N fun p=>(a p && b p) || (a p && c p) || (b p && c p)):=by
 unfold eM rB
 refine d4 (cY ?_)
 exact az (az (az (az rfl rfl y9) (az rfl rfl AK) (p9 N a b)) (az (az rfl rfl y9) (az rfl rfl Kj) (p9 N a c)) (tO N _ _)) (az (az rfl rfl AK) (az rfl rfl Kj) (p9 N b c)) (tO N _ _)
theorem G5(k j:Nat)(hk:k≤4)(hj:j≤4):mB (.str (kS k)) (.str (kS j))= .ok (.bl (decide (k=j))):=by
 show R.ok (D.bl (kS k==kS j))=_
 congr 2
 revert hk hj
 have:∀a∈List.range 5,∀b∈List.range 5,(kS a==kS b)=decide (a=b):=by decide+kernel
 intro hk hj
 exact this k (by rw[List.mem_range];omega) j (by rw[List.mem_range];omega)
theorem DF{N kd:Nat}{xs:List M}(hk:kd≤4)(hx:xs.length=ar kd):eN [.str (kS kd), .tup (xs.map (mI N)),mI N one]= .ok (mI N fun p=>gv kd (xs.map (· p))):=by
 unfold eN nK
 have q:∀j,j≤4→b2 mB (ag 0) (eC (.str (kS j))) (dk jT [.str (kS kd), .tup (xs.map (mI N)),mI N one])= .ok (decide (kd=j)):=fun j hj=>jh (a:= .str (kS kd)) (b:= .str (kS j)) rfl rfl (G5 kd j hk hj)
 have q0:=q 0 (by omega)
 have q1:=q 1 (by omega)
 have q2:=q 2 (by omega)
 have q3:=q 3 (by omega)
 match kd,hk,xs,hx with
 | 0,_,[a],_=>
   refine d4 (NT.kr (qN q0 (cY (az (a:=mI N one) (b:=mI N a) rfl (az rfl rfl y9) (ur N a)))))
 | 1,_,[a,b],_=>
   refine d4 (cx (iZ q0 rfl) (NT.kr (qN q1 (cY (az (az rfl rfl y9) (az rfl rfl AK) (p9 N a b))))))
 | 2,_,[a,b],_=>
   refine d4 (cx (iZ q0 rfl) (cx (iZ q1 rfl) (NT.kr (qN q2 (cY (az (az rfl rfl y9) (az rfl rfl AK) (tO N a b)))))))
 | 3,_,[a,b],_=>
   refine d4 (cx (iZ q0 rfl) (cx (iZ q1 rfl) (cx (iZ q2 rfl) (NT.kr (qN q3 (cY (az (az rfl rfl y9) (az rfl rfl AK) (qQ N a b))))))))
 | 4,_,[a,b,c],_=>
   refine d4 (cx (iZ q0 rfl) (cx (iZ q1 rfl) (cx (iZ q2 rfl) (cx (iZ q3 rfl) (cY (aM (ds:=[.tup [mI N a,mI N b,mI N c]]) rfl x8))))))
theorem D9{N:Nat}{ws:List M}{ns:List Nat}(hn:∀n∈ns,n < ws.length)(hl:ns.length < 1000):d3 [.lst (ws.map (mI N)), .tup (ns.map nI)]= .ok (.tup ((ns.map (cu ws)).map (mI N))):=by
 have hz:sizeLine=16777216:=sizeLine_eq
 unfold d3 pW
 refine d4 (cY (aM (ds:=[.lst ((ns.map (cu ws)).map (mI N))]) (a_ (eJ (dm (ds:=ns.map nI) (vL rfl) (by rw[List.length_map];omega) ?_)) rfl) rfl))
 rw[List.map_map]
 exact NT.cI nI _ fun n hn'=>⟨[.val (nI n), .val (.lst (ws.map (mI N)))],rfl,rfl,az (a:= .lst (ws.map (mI N))) (b:=nI n) rfl rfl (se (hn n hn'))⟩
noncomputable def wZ(N:Nat)(S:aF)(insD bitsD badD:D)(a5 a6 a7:Option V3):DE:=[some (.d insD),some (.d bitsD),some (.d (mI N one)),some (.d badD),some (.loc S.length),a5,a6,a7]
theorem BE{N:Nat}{S:aF}{insD bitsD:D}{bad:List Int}{a5 a7:Option V3}{b:M}{ws:List M}(hl:ws.length < 10000) :
 W3 (fk (wZ N S insD bitsD (.tup (bad.map .int)) a5 (some (.d (mI N b))) a7) (S++[.lst (ws.map (mI N))])) fun o S1=>o= .nx (wZ N S insD bitsD (.tup (bad.map .int)) a5 (some (.d (mI N b))) a7)∧S1=S++[SO.lst ((ws++[fun p=>b p !=bad.contains (ws.length:Int)]).map (mI N))]:=by
 have hz:sizeLine=16777216:=sizeLine_eq
 unfold fk
 refine oH (k:=S.length) rfl ⟨_,bh _ _⟩ (BQ (d:=mI N fun p=>b p !=bad.contains (ws.length:Int)) ?_ rfl ⟨_,_,rfl,bh _ _,by rw[List.length_map];omega,rfl,?_⟩)
 ·have h4:(cT (S++[.lst (ws.map (mI N))]) (wZ N S insD bitsD (.tup (bad.map .int)) a5 (some (.d (mI N b))) a7))[4]? =some (.val (.lst (ws.map (mI N)))):=by
   unfold cT wZ
   show some (match res (S++[.lst (ws.map (mI N))]) (.loc S.length) with | some d=>Sl.val d | none=> .un)=_
   unfold res
   rw[bh]
  refine sF (b:=bad.contains (ws.length:Int)) (jh (a:= .int ws.length) (b:= .tup (bad.map .int)) (aM (ds:=[.lst (ws.map (mI N))]) (a_ (by unfold ag;rw [h4]) rfl) (by rw[lj,List.length_map])) rfl (tp _ _)) ?_
  rw[←zG]
  rfl
 ·rw[cG,List.map_append];rfl
theorem uT{N:Nat}{S:aF}{bD:D}{ins:List (Str × Nat)}{bits:List M}{bad:List Int}(hB:bD= .lst (bits.map (mI N))∨bD= .tup (bits.map (mI N)))(hb:bits.length=ins.length)(hi:ins.length < 100)(hw:∀x∈ins,x.2 < 100){Q:V3→aF→Prop}
 (h:Q (.loc S.length) (S++[.lst ((ft ins bits bad ins.length).map (mI N))])) :
 W3 (cD [.d (.lst (ins.map inD)), .d bD, .d (mI N one), .d (.tup (bad.map .int))] S) Q:=by
 have hz:sizeLine=16777216:=sizeLine_eq
 unfold cD
 refine vc rfl ?_
 simp only[bE,eI,List.map_cons,List.map_nil,List.length_cons,List.length_nil,List.replicate,List.cons_append,List.nil_append,Nat.reduceAdd,Nat.reduceSub]
 unfold f9
 refine aY (bC (by simp only[List.length_cons,List.length_nil,List.length_set];omega) (j6 (ds:=[]) rfl ⟨_,rfl,?_⟩))
 simp only[List.set_cons_succ,List.set_cons_zero]
 refine aY (fA (lu (ds:=bV (bits.map (mI N))) (by rcases hB with rfl | rfl <;> rfl) ?_))
 have big:∀i,i≤ins.length→(ft ins bits bad i).length≤100*i:=by
  intro i hi'
  induction i with
  | zero=>simp [ft]
  | succ i ih=>
    have ih:=ih (by omega)
    have h1:ins[i]? =some ins[i]:=List.getElem?_eq_getElem (by omega)
    have h2:bits[i]? =some bits[i]:=List.getElem?_eq_getElem (by omega)
    unfold ft
    rw[h1,h2]
    show(l7 bad bits[i] ins[i].2 (ft ins bits bad i)).length≤_
    rw[kx]
    have:=hw ins[i] (List.getElem_mem _)
    omega
 refine(bH (fun i δ S2=>(∃a b c,δ=wZ N S (.lst (ins.map inD)) bD (.tup (bad.map .int)) a b c)∧S2=S++[SO.lst ((ft ins bits bad i).map (mI N))])
  ⟨⟨_,_,_,rfl⟩,rfl⟩ ?_).mono fun o S2 ⟨δ2,e2',⟨a,b,c,hδ⟩,hS⟩=>⟨δ2,e2',?_⟩
 ·rintro i v δ S2 hv ⟨⟨a,b,c,rfl⟩,rfl⟩
  obtain⟨d,hd,rfl⟩:=l_ hv
  rw[List.getElem?_map] at hd
  have hib:i < bits.length:=by
   have:=(List.getElem?_eq_some_iff.mp hv).1
   simpa [bV] using this
  have h1:ins[i]? =some ins[i]:=List.getElem?_eq_getElem (by omega)
  have h2:bits[i]? =some bits[i]:=List.getElem?_eq_getElem hib
  rw[h2] at hd
  cases hd
  refine⟨wZ N S (.lst (ins.map inD)) bD (.tup (bad.map .int)) (some (.d (.int i))) (some (.d (mI N bits[i]))) c,rfl,?_⟩
  unfold iy
  have hwi:=hw ins[i] (List.getElem_mem _)
  refine fA (lu (oC (n:=ins[i].2) ?_ (by omega)) ?_)
  ·refine az (a:=inD ins[i]) (b:= .int 1) (az (a:= .lst (ins.map inD)) (b:= .int i) rfl rfl (wH ?_)) rfl rfl
   rw[mZ (by omega) (by rw[List.length_map,Int.toNat_natCast];omega)]
   simp
  refine(bH (fun j δ S3=>(∃c,δ=wZ N S (.lst (ins.map inD)) bD (.tup (bad.map .int)) (some (.d (.int i))) (some (.d (mI N bits[i]))) c)∧S3=S++[SO.lst ((l7 bad bits[i] j (ft ins bits bad i)).map (mI N))])
   ⟨⟨_,rfl⟩,rfl⟩ ?_).mono fun o S3 ⟨δ3,e3,⟨c3,hδ3⟩,hS3⟩=>⟨δ3,e3,⟨_,_,c3,hδ3⟩,?_⟩
  ·rintro j v δ S3 hv ⟨⟨c3,rfl⟩,rfl⟩
   refine⟨_,rfl,?_⟩
   have hj:j < ins[i].2:=by
    have:=(List.getElem?_eq_some_iff.mp hv).1
    rwa [List.length_map,gp,List.length_map,List.length_range] at this
   refine(BE ?_).mono fun o S4 ⟨e4,e5⟩=>⟨_,e4,⟨_,rfl⟩,e5⟩
   rw[kx]
   have:=big i (by omega)
   omega
  ·rw[hS3,List.length_map,gp,List.length_map,List.length_range]
   show _=S++[SO.lst ((match ins[i]?,bits[i]? with | some x,some b=>l7 bad b x.2 (ft ins bits bad i) | _,_=>ft ins bits bad i).map (mI N))]
   rw[h1,h2]
 have hlen:((bV (bits.map (mI N))).map V3.d).length=ins.length:=by simp [bV,hb]
 rw[hlen] at hS
 subst hδ hS
 exact eA (w_var rfl ⟨_,rfl,h⟩)
section
variable {N:Nat} {ins:List (Str × Nat)} {gs:List Gt} {os:List (Str × List Nat)} {bits:List M} {turned bad:List Int}
noncomputable def tU(N:Nat)(S:aF)(nt bitsD tD bD:D)(a6 a7 a8:Option V3):DE:=[some (.d nt),some (.d bitsD),some (.d (mI N one)),some (.d tD),some (.d bD),some (.loc S.length),a6,a7,a8]
theorem yX{S:aF}{nt bitsD bD:D}{a8:Option V3}{g:Gt}{i:Nat}{ws:List M}(hg:sg ws.length g)(hl:ws.length < 20000) :
 W3 (gY (tU N S nt bitsD (.tup (turned.map .int)) bD (some (.d (.int i))) (some (.d (eW g))) a8) (S++[.lst (ws.map (mI N))])) fun o S1=>(∃c,o= .nx (tU N S nt bitsD (.tup (turned.map .int)) bD (some (.d (.int i))) (some (.d (eW g))) c))∧S1=S++[SO.lst ((ws++[fun p=>gF g ws p !=turned.contains (i:Int)]).map (mI N))]:=by
 have hz:sizeLine=16777216:=sizeLine_eq
 have ha:=HC g.1
 unfold gY
 refine aY (bC (by unfold tU;simp only[List.length_cons,List.length_nil];omega) (BQ (d:=mI N (gF g ws)) ?_ rfl ⟨_,rfl,?_⟩))
 ·have h5:(cT (S++[.lst (ws.map (mI N))]) (tU N S nt bitsD (.tup (turned.map .int)) bD (some (.d (.int i))) (some (.d (eW g))) a8))[5]? =some (.val (.lst (ws.map (mI N)))):=by
   unfold cT tU
   show some (match res (S++[.lst (ws.map (mI N))]) (.loc S.length) with | some d=>Sl.val d | none=> .un)=_
   unfold res
   rw[bh]
  refine(aM (ds:=[.str (kS g.1), .tup ((g.2.1.map (cu ws)).map (mI N)),mI N one]) (a_ (az (a:=eW g) (b:= .int 0) rfl rfl rfl) (a_ ?_ (a_ rfl rfl))) (DF hg.1 (by rw[List.length_map];exact hg.2.1))).trans ?_
  ·exact aM (ds:=[.lst (ws.map (mI N)), .tup (g.2.1.map nI)]) (a_ (by unfold ag;rw [h5]) (a_ (az (a:=eW g) (b:= .int 1) rfl rfl rfl) rfl)) (D9 hg.2.2 (by rw[hg.2.1];omega))
  ·have:(fun p=>gv g.1 ((g.2.1.map (cu ws)).map (· p)))=gF g ws:=by funext p;unfold gF;rw [List.map_map];rfl
   rw[this]
 ·show W3 (mG 5 _ (tU N S nt bitsD (.tup (turned.map .int)) bD (some (.d (.int i))) (some (.d (eW g))) (some (.d (mI N (gF g ws))))) _) _
  refine oH (k:=S.length) rfl ⟨_,bh _ _⟩ (cF (d:=mI N fun p=>gF g ws p !=turned.contains (i:Int)) ?_ ⟨_,_,rfl,bh _ _,by rw[List.length_map];omega,⟨_,rfl⟩,?_⟩)
  ·refine sF (b:=turned.contains (i:Int)) (jh (a:= .int i) (b:= .tup (turned.map .int)) rfl rfl (tp _ _)) ?_
   rw[←zG]
   rfl
  ·rw[cG,List.map_append];rfl
theorem zP{S:aF}{bD:D}(hB:bD= .lst (bits.map (mI N))∨bD= .tup (bits.map (mI N)))(NO:kP ins gs os)(hb:bits.length=ins.length)(hS:lT S){Q:V3→aF→Prop}(h:Q (.d (.lst ((sk ins gs bits turned bad).map (mI N)))) S) :
 W3 (eF [.d (cg ins gs os), .d bD, .d (mI N one), .d (.tup (turned.map .int)), .d (.tup (bad.map .int))] S) Q:=by
 have hz:sizeLine=16777216:=sizeLine_eq
 unfold eF
 refine kZ hS (vc rfl ?_)
 simp only[bE,gy,List.map_cons,List.map_nil,List.length_cons,List.length_nil,List.replicate,List.cons_append,List.nil_append,Nat.reduceAdd,Nat.reduceSub]
 unfold jA
 refine aY <| bC (by simp only[List.length_cons,List.length_nil,List.length_set];omega) <| eK <| aI <| cF (d:= .lst (ins.map inD)) rfl <| aI <| cF (d:=bD) rfl <| aI <| cF (d:=mI N one) rfl <| aI <| cF (d:= .tup (bad.map .int)) rfl <| cH <| uT hB hb NO.hi NO.hw ⟨_,rfl,?_⟩
 simp only[List.set_cons_succ,List.set_cons_zero]
 have hwd:=zD NO.hw
 have hN:=NO.hi
 have hG:=NO.hg
 refine aY (fA (lu (ds:=bV (gs.map eW)) rfl ?_))
 refine(bH (fun i δ S2=>(∃a b c,δ=tU N S (cg ins gs os) bD (.tup (turned.map .int)) (.tup (bad.map .int)) a b c)∧S2=S++[SO.lst ((rh gs turned (ft ins bits bad ins.length) i).map (mI N))])
  ⟨⟨_,_,_,rfl⟩,rfl⟩ ?_).mono fun o S2 ⟨δ2,e2',⟨a,b,c,hδ⟩,hS2⟩=>⟨δ2,e2',?_⟩
 ·rintro i v δ S2 hv ⟨⟨a,b,c,rfl⟩,rfl⟩
  obtain⟨d,hd,rfl⟩:=l_ hv
  rw[List.getElem?_map] at hd
  cases q:gs[i]? with
  | none=>rw [q] at hd;cases hd
  | some g=>
    rw[q] at hd
    cases hd
    have hi:i < gs.length:=(List.getElem?_eq_some_iff.mp q).1
    have hl:(rh gs turned (ft ins bits bad ins.length) i).length=lS ins+i:=by rw[mw _ (by omega),lY hb _ (Nat.le_refl _),List.take_length]
    refine⟨tU N S (cg ins gs os) bD (.tup (turned.map .int)) (.tup (bad.map .int)) (some (.d (.int i))) (some (.d (eW g))) c,rfl,?_⟩
    refine(yX (by rw[hl];exact NO.g i g q) (by rw[hl];omega)).mono fun o S4 ⟨⟨c4,e4⟩,e5⟩=>⟨_,e4,⟨_,_,_,rfl⟩,?_⟩
    rw[e5]
    show _=S++[SO.lst ((match gs[i]? with | some g=>rh gs turned (ft ins bits bad ins.length) i++[fun p=>gF g (rh gs turned (ft ins bits bad ins.length) i) p !=turned.contains (i:Int)] | none=>rh gs turned (ft ins bits bad ins.length) i).map (mI N))]
    rw[q]
 have hlen:((bV (gs.map eW)).map V3.d).length=gs.length:=by simp [bV]
 rw[hlen] at hS2
 subst hδ hS2
 exact eA (w_var rfl ⟨_,rfl,by unfold eQ;exact decide_eq_true (Nat.le_refl _),⟨_,rfl⟩,_,by unfold res;rw [bh];rfl,h⟩)
noncomputable def lP(N:Nat)(os:List (Str × List Nat))(ws:List M):List D:=os.map fun x=> .tup ((tell ws x).map (mI N))
theorem Ds{S:aF}{ws:List M}(hO:os.length < 1000)(ho:∀x∈os,x.2.length < 1000∧∀w∈x.2,w < ws.length)(hS:lT S){Q:V3→aF→Prop}(h:Q (.d (.lst (lP N os ws))) S) :
 W3 (eY [.d (cg ins gs os), .d (.lst (ws.map (mI N)))] S) Q:=by
 have hz:sizeLine=16777216:=sizeLine_eq
 unfold eY
 refine kZ hS (vc rfl ?_)
 simp only[bE,f6,List.map_cons,List.map_nil,List.length_cons,List.length_nil,List.replicate,List.cons_append,List.nil_append,Nat.reduceAdd,Nat.reduceSub]
 unfold j0
 refine eA (j6 (ds:=lP N os ws) ?_ ⟨_,rfl,by unfold eQ;exact decide_eq_true (Nat.le_refl _),⟨_,rfl⟩,_,by unfold res;rw [bh],h⟩)
 refine dm (ds:=os.map wx) (fq (az (a:=cg ins gs os) (b:= .int 2) rfl rfl rfl)) (by rw[List.length_map];omega) ?_
 unfold lP
 refine NT.cI wx _ fun(x:Str × List Nat) hx=>⟨[.val (.str x.1), .val (.tup (x.2.map nI)), .val (.lst (ws.map (mI N)))],rfl,rfl,?_⟩
 exact aM (ds:=[.lst (ws.map (mI N)), .tup (x.2.map nI)]) rfl (D9 (ho x hx).2 (ho x hx).1)
end
end K23
end
section
set_option maxRecDepth 100000
set_option maxHeartbeats 4000000
namespace K23
open PySem PySem.Spec PyProof.Rows L2 L3 MT
noncomputable def r0(xs:List M):M:=fun p=>(IK (xs.map (· p))).1
noncomputable def r1(xs:List M):M:=fun p=>(IK (xs.map (· p))).2
theorem oK{n:Nat}{ds:List D}{δ:aq}{j:Int}(h:ag 0 δ= .ok (.tup ds))(hl:ds.length=n):b2 mB (aO eu (aw (ag 0) bb)) (eC (.int j)) δ= .ok (decide ((n:Int)=j)):=by
 refine jh (a:= .int n) (b:= .int j) (aM (ds:=[.tup ds]) (a_ h rfl) ?_) rfl ?_
 ·show R.ok (D.int ds.length)=_
  rw[hl]
 ·show R.ok (D.bl ((n:Int)==j))=_
  congr 2
theorem vg{N:Nat}{xs:List M}(h:1≤xs.length∧xs.length≤3):gE [.tup (xs.map (mI N)),mI N one]= .ok (.tup [mI N (r0 xs),mI N (r1 xs)]):=by
 have hz:sizeLine=16777216:=sizeLine_eq
 unfold gE rE
 match xs,h with
 | [a],_=>
   refine d4 (cx (iZ (oK (n:=1) rfl rfl) rfl) (cx (oi (d:=mI N a) (sF (oK (n:=1) rfl rfl) (az (a:= .tup [mI N a]) (b:= .int 0) rfl rfl y9)) (by simp [dk,kA])) (cY ?_)))
   exact gB (a_ (az (a:=mI N one) (b:=mI N a) rfl rfl (ur N a)) (a_ rfl rfl)) (by simp;omega)
 | [a,b],_=>
   refine d4 (NT.kr (qN (oK (n:=2) rfl rfl) (cY ?_)))
   exact gB (a_ (az (a:=mI N one) (b:=mI N fun p=>a p || b p) rfl (az (az rfl rfl y9) (az rfl rfl AK) (tO N a b)) (ur N _)) (a_ (az (az rfl rfl y9) (az rfl rfl AK) (p9 N a b)) rfl)) (by simp;omega)
 | [a,b,c],_=>
   refine d4 (cx (iZ (oK (n:=3) rfl rfl) rfl) (cx (oi (d:=mI N fun p=>(a p && b p) || (a p && c p) || (b p && c p)) (sF (oK (n:=3) rfl rfl) (aM (ds:=[.tup [mI N a,mI N b,mI N c]]) rfl x8)) (by simp [dk,kA])) (cY ?_)))
   exact gB (a_ (az (a:=mI N one) (b:=mI N fun p=>(a p && b p) || (a p && c p) || (b p && c p)) rfl rfl (ur N _)) (a_ rfl rfl)) (by simp;omega)
theorem pT{bs:List Bool}(hl:bs.length < 100000):eP [.lst (bs.map bI)]= .ok (.int (BW bs)):=by
 unfold eP q8
 refine d4 (cx (oi (d:= .int 0) rfl (by simp [dk,nu])) ?_)
 obtain⟨δ1,e1,a2,hδ1⟩:=nA (t:=bg 2) (body:=ko) (ds:=(bs.map bI).reverse)
  (fun i δ=>∃a2,δ=[.val (.lst (bs.map bI)), .val (.int (BW (bs.drop (bs.length - i)))),a2]) (δ:=[.val (.lst (bs.map bI)), .val (.int 0), .un]) ⟨.un,by simp [BW]⟩ (by
    rintro i d δ hd ⟨a2,rfl⟩
    have hi:i < bs.length:=by
     have:=(List.getElem?_eq_some_iff.mp hd).1
     rwa [List.length_reverse,List.length_map] at this
    rw[List.getElem?_reverse (by rw[List.length_map];exact hi),List.length_map,List.getElem?_map,List.getElem?_eq_getElem (by omega:bs.length - 1 - i < bs.length)] at hd
    cases hd
    have hdr:bs.drop (bs.length - (i+1))=bs[bs.length - 1 - i] ::bs.drop (bs.length - i):=by
     rw[show bs.length - (i+1)=bs.length - 1 - i by omega,List.drop_eq_getElem_cons (by omega:bs.length - 1 - i < bs.length),show bs.length - 1 - i+1=bs.length - i by omega]
    refine⟨_,?_,⟨.val (bI bs[bs.length - 1 - i]),rfl⟩⟩
    have hm:(BW (bs.drop (bs.length - (i+1))):Int)=(BW (bs.drop (bs.length - i)):Int)*2+(if bs[bs.length - 1 - i] then 1 else 0):=by
     rw[hdr]
     show(((if bs[bs.length - 1 - i] then 1 else 0)+2*BW (bs.drop (bs.length - i)):Nat):Int)=_
     cases bs[bs.length - 1 - i] <;> simp <;> omega
    rw[hm]
    generalize (BW (bs.drop (bs.length - i)):Int)=m
    generalize bs[bs.length - 1 - i]=x
    generalize D.lst (bs.map bI)=y
    rw[show bg 2 (bI x) [.val y, .val (.int m),a2]= .ok [.val y, .val (.int m), .val (bI x)] from rfl,R.aP]
    unfold ko
    exact oi (az (a:= .int (m*2)) (b:=bI x) (az (a:= .int m) (b:= .int 2) rfl rfl (bQ _ (.inr ⟨by omega,by omega⟩))) rfl rfl) (by simp))
 refine cx (tf (ds:=(bs.map bI).reverse) rfl e1) ?_
 rw[List.length_reverse,List.length_map,Nat.sub_self,List.drop_zero] at hδ1
 subst hδ1
 exact cY rfl
noncomputable def cQ:Nat→List (List Bool)
 | 0=>[[]]
 | c+1=>(cQ c).flatMap fun b=>[b++[false],b++[true]]
theorem dr:∀c,(cQ c).length=2 ^ c
 | 0=>rfl
 | c+1=>by
   unfold cQ
   rw[List.length_flatMap]
   have:(cQ c).map (fun b=>[b++[false],b++[true]].length)=(cQ c).map fun _=>2:=rfl
   rw[this,List.map_const',List.sum_replicate_nat,dr c]
   omega
theorem mN:∀c,∀b∈cQ c,b.length=c
 | 0,b,h=>by unfold cQ at h;rw [List.mem_singleton.mp h];rfl
 | c+1,b,h=>by
   unfold cQ at h
   obtain⟨a,ha,hb⟩:=List.mem_flatMap.mp h
   have:=mN c a ha
   simp only[List.mem_cons,List.not_mem_nil,or_false] at hb
   rcases hb with rfl | rfl <;> simp [this]
noncomputable def fu(b:List Bool):D:= .tup (b.map bI)
noncomputable def aE(c:Nat)(inp:Option V3)(a2 a3 a4:Option V3):DE:=[some (.d (nI c)),inp,a2,a3,a4]
theorem qu{c:Nat}{S:aF}(hc:c≤10)(hS:lT S){Q:V3→aF→Prop}(h:Q (.d (.lst ((cQ c).map fu))) S):W3 (eD [.d (nI c)] S) Q:=by
 have hz:sizeLine=16777216:=sizeLine_eq
 unfold eD
 refine kZ hS (vc rfl ?_)
 simp only[bE,gA,List.map_cons,List.map_nil,List.length_cons,List.length_nil,List.replicate,List.cons_append,List.nil_append,Nat.reduceAdd,Nat.reduceSub]
 unfold jn
 refine aY <| bC (by simp only[List.length_cons,List.length_nil,List.length_set];omega) <| j6 (ds:=(cQ 0).map fu) rfl ⟨_,rfl,?_⟩
 simp only[List.set_cons_succ,List.set_cons_zero]
 refine aY <| fA <| lu (oC (n:=c) rfl (by omega)) ?_
 refine(bH (fun i δ S2=>∃(T:aF) (a2 a3 a4:Option V3),S2=S++T++[.lst ((cQ i).map fu)]∧δ=aE c (some (.loc (S++T).length)) a2 a3 a4)
  ⟨[],none,none,none,by simp,by simp [aE]⟩ ?_).mono fun o S2 ⟨δ2,e2',T,a2,a3,a4,hS2,hδ⟩=>⟨δ2,e2',?_⟩
 ·rintro i v δ S2 hv ⟨T,a2,a3,a4,rfl,rfl⟩
  have hi:i < c:=by
   have:=(List.getElem?_eq_some_iff.mp hv).1
   rwa [List.length_map,gp,List.length_map,List.length_range] at this
  have hpow:(cQ i).length≤1024:=by
   rw[dr]
   exact Nat.pow_le_pow_right (by omega) (by omega:i≤10)
  refine⟨aE c (some (.loc (S++T).length)) (some v) a3 a4,rfl,?_⟩
  unfold jY aE
  refine D1 (i:=1) rfl (bh _ _) ?_
  rw[cG]
  simp only[List.set_cons_succ,List.set_cons_zero]
  refine aY <| bC (by simp only[List.length_cons,List.length_nil,List.length_set];omega) <| j6 (ds:=[]) rfl ⟨_,rfl,?_⟩
  simp only[List.set_cons_succ,List.set_cons_zero]
  generalize hU:S++T++[SO.gq]=U
  refine aY <| fA <| lu (ds:=(cQ i).map fu) rfl ?_
  refine(bH (fun j δ S3=>(∃b4,δ=[some (.d (nI c)),some (.d (.lst ((cQ i).map fu))),some v,some (.loc U.length),b4])∧S3=U++[.lst ((((cQ i).take j).flatMap fun b=>[b++[false],b++[true]]).map fu)])
   ⟨⟨_,rfl⟩,by simp⟩ ?_).mono fun o S3 ⟨δ3,e3,⟨b4,hδ3⟩,hS3⟩=>⟨δ3,e3,?_⟩
  ·rintro j v3 δ S3 hv3 ⟨⟨b4,rfl⟩,rfl⟩
   obtain⟨b,hb,rfl⟩:=NT.gS hv3
   have hj:=(List.getElem?_eq_some_iff.mp hb).1
   have hbl:=mN i b (List.mem_of_getElem? hb)
   refine⟨[some (.d (nI c)),some (.d (.lst ((cQ i).map fu))),some v,some (.loc U.length),some (.d (fu b))],rfl,?_⟩
   unfold km
   generalize hL:((((cQ i).take j).flatMap fun b=>[b++[false],b++[true]]).map fu)=L
   have hLl:L.length≤2048:=by
    rw[←hL,List.length_map,List.length_flatMap]
    have:((cQ i).take j).map (fun b=>[b++[false],b++[true]].length)=((cQ i).take j).map fun _=>2:=rfl
    rw[this,List.map_const',List.sum_replicate_nat,List.length_take]
    omega
   have add:∀(x:Bool) (δ:aq),ag 4 δ= .ok (fu b)→e2 fw (ag 4) (gh (aw (eC (bI x)) bb)) δ= .ok (fu (b++[x])):=fun x δ h4=>by
    refine az (a:=fu b) (b:= .tup [bI x]) h4 (gB rfl (by simp;omega)) ?_
    show R.bt (decide ((b.map bI).length+[bI x].length≤sizeLine)) _=_
    rw[bQ _ (by rw[List.length_map];simp;omega)]
    unfold fu
    rw[List.map_append];rfl
   refine aY <| oH (k:=U.length) rfl ⟨_,bh _ _⟩ <| cF (d:=fu (b++[false])) (add false _ rfl) ⟨_,_,rfl,bh _ _,by omega,_,rfl,?_⟩
   rw[cG]
   refine oH (k:=U.length) rfl ⟨_,bh _ _⟩ <| cF (d:=fu (b++[true])) (add true _ rfl) ⟨_,_,rfl,bh _ _,by rw[List.length_append];simp;omega,_,rfl,⟨_,rfl⟩,?_⟩
   rw[cG,List.take_add_one,hb,List.flatMap_append,List.map_append,hL]
   simp
  rw[List.length_map,List.length_map,List.take_length] at hS3
  subst hδ3 hS3
  refine bC (by simp only[List.length_cons,List.length_nil,List.length_set];omega) <| w_var (v:= .loc U.length) rfl ⟨_,rfl,T++[SO.gq],some v,some (.loc U.length),b4,?_,?_⟩
  ·rw[←hU,List.append_assoc S];rfl
  ·rw[←hU,List.append_assoc S];rfl
 have hlen:((gp 0 c).map V3.d).length=c:=by simp [gp]
 rw[hlen] at hS2
 subst hδ hS2
 unfold aE
 refine eA (w_var rfl ⟨_,rfl,by unfold eQ;exact decide_eq_true (by rw[List.length_append];omega),⟨T++[.lst ((cQ c).map fu)],by rw[List.append_assoc]⟩,_,by unfold res;rw [bh],h⟩)
end K23
end
section
set_option maxRecDepth 100000
set_option maxHeartbeats 4000000
namespace K23
open PySem PySem.Spec PyProof.Rows L2 L3 MT
noncomputable def Jt(c j:Nat):M:=fun p=>((cQ c).getD p []).getD j false
noncomputable def qw(c:Nat):List M:=(List.range c).map (Jt c)
theorem FQ{b:List Bool}{j:Nat}(h:j < b.length):cR (fu b) (.int j)= .ok (bI (b.getD j false)):=by
 refine sU ?_
 rw[mZ (by omega) (by rw[List.length_map,Int.toNat_natCast];exact h)]
 rw[List.getD_eq_getElem?_getD,List.getElem?_eq_getElem h]
 simp
theorem wF{c j:Nat}(hc:c≤10)(hj:j < c):gG [.lst ((cQ c).map fu), .int j]= .ok (mI (2 ^ c) (Jt c j)):=by
 have hz:sizeLine=16777216:=sizeLine_eq
 have hp:2 ^ c≤1024:=Nat.pow_le_pow_right (by omega) hc
 unfold gG rK
 refine d4 (cY (aM (ds:=[.lst (((cQ c).map fun b=>b.getD j false).map bI)]) (a_ (eJ (dm (ds:=(cQ c).map fu) rfl (by rw[List.length_map,dr];omega) ?_)) rfl) ?_))
 ·rw[List.map_map]
  exact NT.cI fu _ fun b hb=>⟨[.val (fu b), .val (.int j)],rfl,rfl,az (a:=fu b) (b:= .int j) rfl rfl (FQ (by rw[mN c b hb];exact hj))⟩
 ·rw[pT (by rw[List.length_map,dr];omega),zM,List.length_map,dr]
  unfold mI
  congr 3
  refine kG fun p hp'=>?_
  unfold Jt
  rw[List.getD_eq_getElem?_getD,List.getElem?_map,List.getD_eq_getElem?_getD (l:=cQ c),List.getElem?_eq_getElem (by rw[dr];exact hp')]
  rfl
section
variable {c:Nat} {ins:List (Str × Nat)} {gs:List Gt} {os:List (Str × List Nat)}
noncomputable abbrev Aj:=Str.ofString "net"
noncomputable abbrev xm:=Str.ofString "many_inputs"
noncomputable abbrev qV:=Str.ofString "full"
noncomputable abbrev ny:=Str.ofString "in_masks"
noncomputable def d5(c:Nat)(nt:D):List (Str × V3):=[(Aj, .d nt),(xm, .d (nI (2 ^ c))),(qV, .d (mI (2 ^ c) one)),(ny, .d (.lst ((qw c).map (mI (2 ^ c)))))]
theorem CO{S:aF}(hc:ins.length=c)(hc1:c≤10)(hS:lT (S++[.ins 0 []])){Q:V3→aF→Prop}(h:Q (.d .bX) (S++[.ins 0 (d5 c (cg ins gs os))])) :
 W3 (cn [.loc S.length, .d (cg ins gs os)] (S++[.ins 0 []])) Q:=by
 have hz:sizeLine=16777216:=sizeLine_eq
 have hp:2 ^ c≤1024:=Nat.pow_le_pow_right (by omega) hc1
 unfold cn
 refine G7 rfl ?_
 simp only[bE,cB,List.map_cons,List.map_nil,List.length_cons,List.length_nil,List.replicate,List.cons_append,List.nil_append,Nat.reduceAdd,Nat.reduceSub]
 unfold fO
 refine aY <| bC (by simp only[List.length_cons,List.length_nil,List.length_set];omega) <| eK <| aI <| cF (d:=nI c) (aM (ds:=[.lst (ins.map inD)]) rfl (by rw[lj,List.length_map,hc];rfl)) <| cH <| qu hc1 hS ⟨_,rfl,?_⟩
 simp only[List.set_cons_succ,List.set_cons_zero]
 refine aY <| ig (k:=S.length) <| cF (d:=cg ins gs os) rfl <| w_var (v:= .loc S.length) rfl ⟨_,rfl,bh _ _,by simp,_,rfl,?_⟩
 rw[cG]
 refine aY <| ig (k:=S.length) <| cF (d:=nI (2 ^ c)) (aM (ds:=[.lst ((cQ c).map fu)]) rfl (by rw[lj,List.length_map,dr];rfl)) <| w_var (v:= .loc S.length) rfl ⟨_,rfl,bh _ _,by unfold uz;simp,_,rfl,?_⟩
 rw[cG]
 refine aY <| ig (k:=S.length) <| cF (d:=mI (2 ^ c) one) (aM (ds:=[.lst (((cQ c).map fun _=>true).map bI)]) (a_ (eJ (dm (ds:=(cQ c).map fu) rfl (by rw[List.length_map,dr];omega) ?_)) rfl) ?_) <| w_var (v:= .loc S.length) rfl ⟨_,rfl,bh _ _,?_,_,rfl,?_⟩
 ·rw[List.map_map]
  exact NT.cI fu _ fun b hb=>⟨[.val (fu b)],rfl,rfl,rfl⟩
 ·rw[pT (by rw[List.length_map,dr];omega),zM,List.length_map,dr]
  unfold mI
  congr 3
  refine kG fun p hp'=>?_
  rw[List.getD_eq_getElem?_getD,List.getElem?_map,List.getElem?_eq_getElem (by rw[dr];exact hp')]
  rfl
 ·exact(by decide:2 < 1000)
 rw[cG]
 refine ig (k:=S.length) <| cF (d:= .lst ((qw c).map (mI (2 ^ c)))) (eJ (dm (ds:=gp 0 c) (oC (n:=c) (aM (ds:=[.lst (ins.map inD)]) rfl (by rw[lj,List.length_map,hc])) (by omega)) (by simp [gp];omega) ?_)) <| w_var (v:= .loc S.length) rfl ⟨_,rfl,bh _ _,?_,_,rfl,?_⟩
 ·unfold qw
  rw[List.map_map]
  unfold gp
  refine NT.cI (fun i:Nat=>D.int (0+(i:Int))) _ fun j hj=>⟨[.val (.int (0+(j:Int))), .val (.lst ((cQ c).map fu))],rfl,rfl,aM (ds:=[.lst ((cQ c).map fu), .int j]) ?_ (wF hc1 (List.mem_range.mp hj))⟩
  rw[Int.zero_add]
  rfl
 ·exact(by decide:3 < 1000)
 rw[cG]
 exact h
end
end K23
end
section
set_option maxRecDepth 100000
set_option maxHeartbeats 4000000
namespace K23
open PySem PySem.Spec PyProof.Rows L2 L3 MT
section
variable {c:Nat} {ins:List (Str × Nat)} {gs:List Gt} {os:List (Str × List Nat)} {S:aF} {k:Nat} {turned bad:List Int}
theorem KP:(qV==Aj)=false:=by decide+kernel
theorem Lf:(qV==xm)=false:=by decide+kernel
theorem LR:(ny==Aj)=false:=by decide+kernel
theorem Lu:(ny==xm)=false:=by decide+kernel
theorem Lo:(ny==qV)=false:=by decide+kernel
theorem z8{nt:D}:(d5 c nt).lookup Aj=some (.d nt):=by unfold d5;rw [List.lookup_cons,beq_self_eq_true]
theorem xx{nt:D}:(d5 c nt).lookup qV=some (.d (mI (2 ^ c) one)):=by unfold d5;rw [List.lookup_cons,KP,List.lookup_cons,Lf,List.lookup_cons,beq_self_eq_true]
theorem Ab{nt:D}:(d5 c nt).lookup ny=some (.d (.lst ((qw c).map (mI (2 ^ c))))):=by unfold d5;rw [List.lookup_cons,LR,List.lookup_cons,Lu,List.lookup_cons,Lo,List.lookup_cons,beq_self_eq_true]
theorem tW:(qw c).length=c:=by unfold qw;simp
noncomputable abbrev Wd(c:Nat)(ins:List (Str × Nat))(gs:List Gt)(turned bad:List Int):List M:=sk ins gs (qw c) turned bad
theorem FF(m:Str)(nt:D)(h1:(m==Aj)=false)(h2:(m==xm)=false)(h3:(m==qV)=false)(h4:(m==ny)=false):(d5 c nt).lookup m=none:=by unfold d5;rw [List.lookup_cons,h1,List.lookup_cons,h2,List.lookup_cons,h3,List.lookup_cons,h4];rfl
theorem AD(NO:kP ins gs os)(hc:ins.length=c)(hS:lT S)(hb:S[k]? =some (.ins 0 (d5 c (cg ins gs os)))){Q:V3→aF→Prop}(h:Q (.d (.lst (lP (2 ^ c) os (Wd c ins gs turned bad)))) S) :
 W3 (dY [.loc k, .d (.tup (turned.map .int)), .d (.tup (bad.map .int))] S) Q:=by
 have hz:sizeLine=16777216:=sizeLine_eq
 unfold dY
 refine kZ hS (vc rfl ?_)
 simp only[bE,fT,List.map_cons,List.map_nil,List.length_cons,List.length_nil,List.replicate,List.cons_append,List.nil_append,Nat.reduceAdd,Nat.reduceSub]
 unfold iR
 have hl:(qw c).length=ins.length:=by rw[tW,hc]
 refine eA <| eK <| aI <| w_fld (k:=k) <| w_var (v:= .loc k) rfl ⟨_,_,rfl,hb,z8,?_⟩
 refine aI <| eK <| aI <| w_fld (k:=k) <| w_var (v:= .loc k) rfl ⟨_,_,rfl,hb,z8,?_⟩
 refine aI <| w_fld (k:=k) <| w_var (v:= .loc k) rfl ⟨_,_,rfl,hb,Ab,?_⟩
 refine aI <| w_fld (k:=k) <| w_var (v:= .loc k) rfl ⟨_,_,rfl,hb,xx,?_⟩
 refine aI <| cF (d:= .tup (turned.map .int)) rfl <| aI <| cF (d:= .tup (bad.map .int)) rfl <| cH ?_
 refine zP (.inl rfl) NO hl hS (cH ?_)
 refine Ds NO.ho (fun x hx=>⟨(NO.o x hx).1,fun w hw=>by rw[Ae hl];exact(NO.o x hx).2 w hw⟩) hS ?_
 exact⟨_,rfl,by unfold eQ;rfl,⟨[],by simp⟩,_,by unfold res;rfl,h⟩
noncomputable def Cv(N:Nat)(os:List (Str × List Nat))(ws:List M):List D:=os.map fun x=> .tup [mI N (r0 (tell ws x)),mI N (r1 (tell ws x))]
theorem nE(NO:kP ins gs os)(hc:ins.length=c)(ho:∀x∈os,1≤x.2.length∧x.2.length≤3)(hS:lT S)(hb:S[k]? =some (.ins 0 (d5 c (cg ins gs os)))){Q:V3→aF→Prop}(h:Q (.d (.lst (Cv (2 ^ c) os (Wd c ins gs turned [])))) S) :
 W3 (bN [.loc k, .d (.tup (turned.map .int))] S) Q:=by
 have hz:sizeLine=16777216:=sizeLine_eq
 have hO:=NO.ho
 unfold bN
 refine kZ hS (vc rfl ?_)
 simp only[bE,dh,List.map_cons,List.map_nil,List.length_cons,List.length_nil,List.replicate,List.cons_append,List.nil_append,Nat.reduceAdd,Nat.reduceSub]
 unfold fJ
 refine eA <| oG (fun j ds S2=>S2=S∧ds=(Cv (2 ^ c) os (Wd c ins gs turned [])).take j) ?_
 refine ot <| sv (k:=k) <| w_var (v:= .loc k) rfl ⟨_,rfl,hb,FF _ _ (by decide+kernel) (by decide+kernel) (by decide+kernel) (by decide+kernel),?_⟩
 refine aI <| cF (d:= .tup (turned.map .int)) rfl <| aI <| cF (d:= .tup (([]:List Int).map .int)) rfl <| cH ?_
 refine AD NO hc hS hb ⟨_,rfl,?_,⟨rfl,by simp⟩,?_,?_⟩
 ·rw[List.length_map,lP,List.length_map];omega
 ·rintro j v ds S2 hv ⟨rfl,rfl⟩
  rw[lP] at hv
  obtain⟨x,hx,rfl⟩:=NT.gS hv
  refine⟨[some (.d (.tup ((tell (Wd c ins gs turned []) x).map (mI (2 ^ c))))),some (.loc k)],rfl,yh ?_⟩
  rw[if_pos rfl]
  refine tw <| aI <| cF (d:= .tup ((tell (Wd c ins gs turned []) x).map (mI (2 ^ c)))) rfl <| aI <| w_fld (k:=k) <| w_var (v:= .loc k) rfl ⟨_,_,rfl,hb,xx,cH ⟨[.tup ((tell (Wd c ins gs turned []) x).map (mI (2 ^ c))),mI (2 ^ c) one],_,rfl,vg ?_,_,rfl,rfl,?_⟩⟩
  ·unfold tell;rw [List.length_map];exact ho x (List.mem_of_getElem? hx)
  ·unfold Cv
   rw[List.take_add_one,List.getElem?_map,hx]
   rfl
 ·rintro ds S2 ⟨rfl,rfl⟩
  rw[List.length_map,lP,List.length_map,List.take_of_length_le (by rw[Cv,List.length_map];exact Nat.le_refl _)]
  exact⟨_,rfl,by unfold eQ;rfl,⟨[],by simp⟩,_,by unfold res;rfl,h⟩
end
end K23
end
section
set_option maxRecDepth 100000
set_option maxHeartbeats 4000000
namespace K23
open PySem PySem.Spec PyProof.Rows L2 L3 MT
noncomputable def bU(T:List Nat):D:= .tup (T.map nI)
theorem B7{ps:List Nat}{a:Nat}(ha:a < ps.length):DZ (.lst (ps.map nI)) (some ((a+1:Nat):Int)) none= .ok (.lst ((ps.drop (a+1)).map nI)):=by
 show R.ok (D.lst (L2.cutD (ps.map nI) (some ((a+1:Nat):Int)) none))=_
 congr 2
 unfold L2.cutD
 rw[List.length_map,HT.om,HT.oX,Nat.min_eq_left (by omega),←List.map_drop,←List.map_take,List.take_of_length_le (by rw[List.length_drop];omega)]
theorem zX{ds es:List D}(h:ds.length+es.length≤sizeLine):fw (.tup ds) (.tup es)= .ok (.tup (ds++es)):=bQ _ h
theorem px:∀(n s:Nat) (ps:List Nat),s≤n→n≤3→ps.length≤100→du (n+1) [.lst (ps.map nI), .int s]= .ok (.lst ((gH ps s).map bU))
 | n,0,ps,_,_,_=>by
   show oz jc (i3 (du n)) _=_
   unfold i3
   exact d4 (NT.kr (qN (jh (a:= .int 0) (b:= .int 0) rfl rfl rfl) (cY rfl)))
 | 0,s+1,ps,h,_,_=>by omega
 | n+1,s+1,ps,h,hn,hp=>by
   have hz:sizeLine=16777216:=sizeLine_eq
   show oz jc (i3 (du (n+1))) _=_
   unfold i3
   have hcl:(gH ps (s+1)).length≤100 ^ (s+1):=kC hp
   have hpow:∀m,m≤3→(100:Nat) ^ m≤1000000:=fun m hm=>Nat.pow_le_pow_right (by omega) hm
   refine d4 (cx (iZ (jh (a:= .int (s+1:Nat)) (b:= .int 0) (k:=false) rfl rfl ?_) rfl) ?_)
   ·show R.ok (D.bl (((s+1:Nat):Int)==0))=_
    congr 2
   refine cx (Dm (ds:=[]) rfl (by simp [dk,jc])) ?_
   let F:Nat→List (List Nat):=fun i=>(List.range i).flatMap fun a=>(gH (ps.drop (a+1)) s).map (ps.getD a 0 ::·)
   have hF:∀i,i≤ps.length→(F i).length≤i*100 ^ s:=fun i hi=>by
    show((List.range i).flatMap fun a=>(gH (ps.drop (a+1)) s).map (ps.getD a 0 ::·)).length≤_
    rw[List.length_flatMap]
    refine Nat.le_trans (vz (m:=100 ^ s) fun x hx=>?_) (by rw[List.length_map,List.length_range];exact Nat.le_refl _)
    obtain⟨a,_,rfl⟩:=List.mem_map.mp hx
    rw[List.length_map]
    exact kC (by rw[List.length_drop];omega)
   have hFs:∀i,F (i+1)=F i++(gH (ps.drop (i+1)) s).map (ps.getD i 0 ::·):=fun i=>by
    show(List.range (i+1)).flatMap _=_
    rw[List.range_succ,List.flatMap_append]
    simp [F]
   obtain⟨δ1,e1,a3,a4,a5,hδ1⟩:=nA (t:=ip 2 (c7 (bg 3) (c7 (bg 4) g_))) (body:=j9 (du (n+1))) (ds:=bV (ps.map nI))
    (fun i δ=>∃a3 a4 a5,δ=[.val (.lst (ps.map nI)), .val (.int (s+1:Nat)), .bld ((F i).map bU),a3,a4,a5]) (δ:=[.val (.lst (ps.map nI)), .val (.int (s+1:Nat)), .bld [], .un, .un, .un]) ⟨.un, .un, .un,by simp [F]⟩ (by
      rintro i d δ hd ⟨a3,a4,a5,rfl⟩
      have hv:((bV (ps.map nI)).map V3.d)[i]? =some (.d d):=by rw[List.getElem?_map,hd];rfl
      obtain⟨d0,hd0,ed⟩:=l_ hv
      cases ed
      obtain⟨x,hx,rfl⟩:=NT.oB hd0
      have hil:=(List.getElem?_eq_some_iff.mp hx).1
      have hxd:ps.getD i 0=x:=by rw[List.getD_eq_getElem?_getD,hx];rfl
      have hFi:=hF i (by omega)
      have hFb:i*100 ^ s≤100*100 ^ s:=Nat.mul_le_mul_right _ (by omega)
      have hp2:=hpow (s+1) (by omega)
      rw[Nat.pow_succ,Nat.mul_comm] at hp2
      rw[show ip 2 (c7 (bg 3) (c7 (bg 4) g_)) (.tup [.int i,nI x]) [.val (.lst (ps.map nI)), .val (.int (s+1:Nat)), .bld ((F i).map bU),a3,a4,a5]= .ok [.val (.lst (ps.map nI)), .val (.int (s+1:Nat)), .bld ((F i).map bU), .val (.int i), .val (nI x),a5] from rfl,R.aP]
      unfold j9
      have ihc:=px n s (ps.drop (i+1)) (by omega) (by omega) (by rw[List.length_drop];omega)
      have hdl:(gH (ps.drop (i+1)) s).length≤100 ^ s:=kC (by rw[List.length_drop];omega)
      obtain⟨δ2,e2',c5,hδ2⟩:=nA (t:=bg 5) (body:=kq (du (n+1))) (ds:=(gH (ps.drop (i+1)) s).map bU)
       (fun j δ=>∃c5,δ=[.val (.lst (ps.map nI)), .val (.int (s+1:Nat)), .bld ((F i++((gH (ps.drop (i+1)) s).take j).map (x ::·)).map bU), .val (.int i), .val (nI x),c5]) (δ:=[.val (.lst (ps.map nI)), .val (.int (s+1:Nat)), .bld ((F i).map bU), .val (.int i), .val (nI x),a5]) ⟨a5,by simp⟩ (by
         rintro j d δ hd ⟨c5,rfl⟩
         obtain⟨T,hT,rfl⟩:=NT.oB hd
         have hjl:=(List.getElem?_eq_some_iff.mp hT).1
         have hTl:=(ij (List.mem_of_getElem? hT)).1
         refine⟨[.val (.lst (ps.map nI)), .val (.int (s+1:Nat)), .bld ((F i++((gH (ps.drop (i+1)) s).take (j+1)).map (x ::·)).map bU), .val (.int i), .val (nI x), .val (bU T)],?_,⟨_,rfl⟩⟩
         generalize hL:(F i++((gH (ps.drop (i+1)) s).take j).map (x ::·)).map bU=L
         have hLl:L.length < sizeLine:=by
          rw[←hL,List.length_map,List.length_append,List.length_map,List.length_take]
          omega
         rw[show bg 5 (bU T) [.val (.lst (ps.map nI)), .val (.int (s+1:Nat)), .bld L, .val (.int i), .val (nI x),c5]= .ok [.val (.lst (ps.map nI)), .val (.int (s+1:Nat)), .bld L, .val (.int i), .val (nI x), .val (bU T)] from rfl,R.aP]
         unfold kq
         rw[Df (d:=bU (x ::T)) (ds:=L) (az (a:= .tup [nI x]) (b:=bU T) (gB rfl (by simp;omega)) rfl (zX (by rw[List.length_map];simp;omega))) rfl hLl,←hL,List.take_add_one,hT]
         simp [bU])
      refine⟨_,tf (ds:=(gH (ps.drop (i+1)) s).map bU) (fq (aM (ds:=[.lst ((ps.drop (i+1)).map nI), .int s]) (a_ (rR (d:= .lst (ps.map nI)) (lo:=some ((i+1:Nat):Int)) (hi:=none) rfl (uH (az (a:= .int i) (b:= .int 1) rfl rfl rfl)) rfl (B7 hil)) (a_ (az (a:= .int (s+1:Nat)) (b:= .int 1) rfl rfl ?_) rfl)) ihc)) e2',?_⟩
      ·show R.ok (D.int (((s+1:Nat):Int) - 1))=_
       congr 2
       omega
      ·rw[List.length_map,List.take_length] at hδ2
       refine⟨.val (.int i), .val (nI x),c5,?_⟩
       rw[hδ2,hFs,hxd])
   refine cx (tf (ds:=bV (ps.map nI)) rfl e1) ?_
   have hlen:(bV (ps.map nI)).length=ps.length:=by simp [bV]
   rw[hlen] at hδ1
   subst hδ1
   exact cY rfl
end K23
end
section
set_option maxRecDepth 100000
set_option maxHeartbeats 4000000
namespace K23
open PySem PySem.Spec PyProof.Rows L2 L3 MT
section
variable {c:Nat} {ins:List (Str × Nat)} {gs:List Gt} {os:List (Str × List Nat)} {S:aF} {k:Nat} {turned:List Int} {safe:Bool}
noncomputable abbrev k6:=Str.ofString "bench"
noncomputable abbrev oT:=Str.ofString "plain"
noncomputable abbrev ml:=Str.ofString "unsure"
noncomputable def i8(gs:List Gt):List Nat:=(List.range gs.length).filter fun i=>match gs[i]? with | some g=>!g.2.2 | none=>false
noncomputable def fG(c:Nat)(ins:List (Str × Nat))(gs:List Gt)(os:List (Str × List Nat))(b:Nat):List (Str × V3):=[(k6, .loc b),(oT, .d (.lst (Cv (2 ^ c) os (Wd c ins gs [] [])))),(ml, .d (.lst ((i8 gs).map nI)))]
theorem Ll:(oT==k6)=false:=by decide+kernel
theorem K_:(ml==k6)=false:=by decide+kernel
theorem LB:(ml==oT)=false:=by decide+kernel
theorem zO{b:Nat}:(fG c ins gs os b).lookup k6=some (.loc b):=by unfold fG;rw [List.lookup_cons,beq_self_eq_true]
theorem A4{b:Nat}:(fG c ins gs os b).lookup oT=some (.d (.lst (Cv (2 ^ c) os (Wd c ins gs [] [])))):=by unfold fG;rw [List.lookup_cons,Ll,List.lookup_cons,beq_self_eq_true]
theorem En{b:Nat}:(fG c ins gs os b).lookup ml=some (.d (.lst ((i8 gs).map nI))):=by unfold fG;rw [List.lookup_cons,K_,List.lookup_cons,LB,List.lookup_cons,beq_self_eq_true]
theorem GN{b:Nat}(m:Str)(h1:(m==k6)=false)(h2:(m==oT)=false)(h3:(m==ml)=false):(fG c ins gs os b).lookup m=none:=by unfold fG;rw [List.lookup_cons,h1,List.lookup_cons,h2,List.lookup_cons,h3];rfl
noncomputable def TS(S:aF)(c:Nat)(ins:List (Str × Nat))(gs:List Gt)(os:List (Str × List Nat)):aF:=S++[.ins 1 (fG c ins gs os (S.length+1)), .ins 0 (d5 c (cg ins gs os))]
mutual
theorem wk{n m:Nat}(h:n≤m):∀v:V3,ki n v=true→ki m v=true
 | .d _,_=>by unfold ki;rfl
 | .loc k,q=>by
   unfold ki at q ⊢
   exact decide_eq_true (Nat.lt_of_lt_of_le (of_decide_eq_true q) h)
 | .lst vs,q=>by unfold ki at q ⊢;exact iz h vs q
 | .tup vs,q=>by unfold ki at q ⊢;exact iz h vs q
theorem iz{n m:Nat}(h:n≤m):∀vs:List V3,gU n vs=true→gU m vs=true
 | [],_=>by unfold gU;rfl
 | v ::vs,q=>by
   unfold gU at q ⊢
   rw[Bool.and_eq_true] at q ⊢
   exact⟨wk h v q.1,iz h vs q.2⟩
end
theorem qW{n m:Nat}(h:n≤m)(o:SO)(q:ll n o=true):ll m o=true:=by
 cases o with
 | ins k fs=>exact iz h _ q
 | _=>rfl
theorem lT.push{S:aF}(hS:lT S){x:SO}(hx:∀n,ll n x=true):lT (S++[x]):=fun o ho=>by
 rcases List.mem_append.mp ho with q | q
 ·exact qW (by simp) o (hS o q)
 ·rw[List.mem_singleton.mp q];exact hx _
theorem FW{S:aF}(hS:lT S){x y:SO}(hx:ll (S.length+2) x=true)(hy:ll (S.length+2) y=true):lT (S++[x,y]):=fun o ho=>by
 rw[show(S++[x,y]).length=S.length+2 by simp]
 rcases List.mem_append.mp ho with q | q
 ·exact qW (by omega) o (hS o q)
 ·simp only[List.mem_cons,List.not_mem_nil,or_false] at q
  rcases q with rfl | rfl
  ·exact hx
  ·exact hy
theorem A9{δ:aq}(hg:gs.length < 1000)(h1:ag 1 δ= .ok (cg ins gs os)):et (gP (e2 cR (ag 1) (eC (.int 1)))) (ip 2 (c7 (bg 0) (c7 (bg 1) g_))) (kK (jR (e2 cR (ag 1) (eC (.int 2))))) (ag 0) [(Str.ofString "place"),(Str.ofString "gate")] [] δ= .ok ((i8 gs).map nI):=by
 have hz:sizeLine=16777216:=sizeLine_eq
 refine dm (ds:=bV (gs.map eW)) (E4 (az (a:=cg ins gs os) (b:= .int 1) h1 rfl rfl)) (by simp [bV];omega) ?_
 have e:bV (gs.map eW)=(List.range gs.length).map fun i=> .tup [.int i,eW (gs.getD i (0,[],false))]:=by
  refine List.ext_getElem? fun i=>?_
  rw[List.getElem?_map,bV,List.getElem?_map,List.getElem?_zipIdx,List.getElem?_map]
  by_cases q:i < gs.length
  ·rw[List.getElem?_eq_getElem q,List.getElem?_range q]
   show some (D.tup [.int ((0+i:Nat):Int),eW gs[i]])=some (D.tup [.int i,eW (gs.getD i (0,[],false))])
   rw[Nat.zero_add,List.getD_eq_getElem?_getD,List.getElem?_eq_getElem q];rfl
  ·rw[List.getElem?_eq_none (by omega),List.getElem?_eq_none (by simp;omega)];rfl
 rw[e]
 unfold i8
 refine NT.jv (fun i:Nat=>match gs[i]? with | some g=>!g.2.2 | none=>false) (fun i:Nat=>D.tup [.int i,eW (gs.getD i (0,[],false))]) nI fun i hi=>?_
 rw[List.mem_range] at hi
 refine⟨[.val (.int i), .val (eW (gs.getD i (0,[],false)))],rfl,?_,fun _=>rfl⟩
 rw[List.getElem?_eq_getElem hi,List.getD_eq_getElem?_getD,List.getElem?_eq_getElem hi]
 rfl
theorem AH(NO:kP ins gs os)(hc:ins.length=c)(hc1:c≤10)(ho:∀x∈os,1≤x.2.length∧x.2.length≤3)(hS:lT S){Q:V3→aF→Prop}(h:Q (.d .bX) (TS S c ins gs os)) :
 W3 (cm [.loc S.length, .d (cg ins gs os)] (S++[.ins 1 []])) Q:=by
 have hz:sizeLine=16777216:=sizeLine_eq
 unfold cm
 refine G7 rfl ?_
 simp only[bE,dj,List.map_cons,List.map_nil,List.length_cons,List.length_nil,List.replicate,List.cons_append,List.nil_append,Nat.reduceAdd,Nat.reduceSub]
 unfold fN
 have l1:(S++[SO.ins 1 []]).length=S.length+1:=by simp
 have g0:∀(x y:SO),(S++[x,y])[S.length]? =some x:=fun x y=>by rw[List.getElem?_append_right (Nat.le_refl _),Nat.sub_self];rfl
 have g1:∀(x y:SO),(S++[x,y])[S.length+1]? =some y:=fun x y=>by rw[List.getElem?_append_right (by omega),show S.length+1 - S.length=1 by omega];rfl
 have st:∀(x y z:SO),(S++[x,y]).set S.length z=S++[z,y]:=fun x y z=>by rw[List.set_append_right _ _ (Nat.le_refl _),Nat.sub_self];rfl
 have ap:∀(x y:SO),S++[x]++[y]=S++[x,y]:=fun x y=>by simp
 refine aY <| ig (k:=S.length) <| Bl <| aI <| cF (d:=cg ins gs os) rfl <| cH <| CO hc hc1 ?_ ⟨rfl,?_⟩
 ·rw[ap];exact FW hS rfl rfl
 rw[ap]
 refine w_var (v:= .loc S.length) rfl ⟨_,rfl,g0 _ _,by simp,_,rfl,?_⟩
 rw[st,l1]
 have hcl:∀fs:List (Str × V3),gU (S.length+2) (fs.map (·.2))=true→lT (S++[.ins 1 fs, .ins 0 (d5 c (cg ins gs os))]):=fun fs hf=>FW hS hf rfl
 refine aY <| ig (k:=S.length) <| sv (k:=S.length+1) <| w_fld (k:=S.length) <| w_var (v:= .loc S.length) rfl ⟨_,_,rfl,g0 _ _,(by show List.lookup k6 [(k6,V3.loc (S.length+1))]=_;rw [List.lookup_cons,beq_self_eq_true]),_,rfl,g1 _ _,FF _ _ (by decide+kernel) (by decide+kernel) (by decide+kernel) (by decide+kernel),?_⟩
 refine aI <| cF (d:= .tup (([]:List Int).map .int)) rfl <| cH <| nE NO hc ho (hcl _ ?_) (g1 _ _) ?_
 ·show(decide (S.length+1 < S.length+2) && true)=true
  rw[decide_eq_true (by omega)];rfl
 refine w_var (v:= .loc S.length) rfl ⟨_,rfl,g0 _ _,(by decide:1 < 1000),_,rfl,?_⟩
 rw[st]
 refine ig (k:=S.length) <| cF (d:= .lst ((i8 gs).map nI)) (eJ (A9 NO.hg rfl)) <| w_var (v:= .loc S.length) rfl ⟨_,rfl,g0 _ _,?_,_,rfl,?_⟩
 ·exact(by decide:2 < 1000)
 rw[st]
 exact h
noncomputable def m8(safe:Bool):Str:=if safe then Str.ofString "safe" else Str.ofString "right"
noncomputable def pt(ws:List M)(x:Str × List Nat)(p:Nat):Bool × Bool:=IK ((tell ws x).map (· p))
noncomputable def EM(safe:Bool)(c:Nat)(ins:List (Str × Nat))(gs:List Gt)(os:List (Str × List Nat))(turned:List Int):M:=fun p=>os.any fun x=>brk safe (pt (Wd c ins gs [] []) x p) (pt (Wd c ins gs turned []) x p)
theorem zd{b:Nat}(NO:kP ins gs os)(hc:ins.length=c)(ho:∀x∈os,1≤x.2.length∧x.2.length≤3)(hS:lT S)(hk:S[k]? =some (.ins 1 (fG c ins gs os b)))(hb:S[b]? =some (.ins 0 (d5 c (cg ins gs os)))){Q:V3→aF→Prop}
 (h:Q (.d (mI (2 ^ c) (EM safe c ins gs os turned))) S):W3 (cP [.loc k, .d (.tup (turned.map .int)), .d (.str (m8 safe))] S) Q:=by
 have hz:sizeLine=16777216:=sizeLine_eq
 unfold cP
 refine kZ hS (vc rfl ?_)
 simp only[bE,dQ,List.map_cons,List.map_nil,List.length_cons,List.length_nil,List.replicate,List.cons_append,List.nil_append,Nat.reduceAdd,Nat.reduceSub]
 unfold eX
 have h0:D.int 0=mI (2 ^ c) fun _=>false:=by
  unfold mI
  rw[i0.mpr fun _ _=>rfl];rfl
 refine aY <| bC (by simp only[List.length_cons,List.length_nil,List.length_set];omega) <| cF (d:=mI (2 ^ c) fun _=>false) (by rw[←h0];rfl) ⟨_,rfl,?_⟩
 simp only[List.set_cons_succ,List.set_cons_zero]
 refine aY <| fA <| Ht <| w_fld (k:=k) <| w_var (v:= .loc k) rfl ⟨_,_,rfl,hk,A4,?_⟩
 refine sv (k:=b) <| w_fld (k:=k) <| w_var (v:= .loc k) rfl ⟨_,_,rfl,hk,zO,_,rfl,hb,FF _ _ (by decide+kernel) (by decide+kernel) (by decide+kernel) (by decide+kernel),?_⟩
 refine aI <| cF (d:= .tup (turned.map .int)) rfl <| cH <| nE NO hc ho hS hb ⟨_,_,_,_,rfl,rfl,rfl,rfl,?_⟩
 have hzip:uv (Cv (2 ^ c) os (Wd c ins gs [] [])) (Cv (2 ^ c) os (Wd c ins gs turned []))=os.map fun x=> .tup [.tup [mI (2 ^ c) (r0 (tell (Wd c ins gs [] []) x)),mI (2 ^ c) (r1 (tell (Wd c ins gs [] []) x))], .tup [mI (2 ^ c) (r0 (tell (Wd c ins gs turned []) x)),mI (2 ^ c) (r1 (tell (Wd c ins gs turned []) x))]]:=by
  unfold uv Cv
  rw[List.zip_map',List.map_map];rfl
 rw[hzip]
 refine(bH (fun i δ S2=>S2=S∧∃a4 a5,δ=[some (.loc k),some (.d (.tup (turned.map .int))),some (.d (.str (m8 safe))),some (.d (mI (2 ^ c) fun p=>(os.take i).any fun x=>brk safe (pt (Wd c ins gs [] []) x p) (pt (Wd c ins gs turned []) x p))),a4,a5])
  ⟨rfl,none,none,rfl⟩ ?_).mono fun o S2 ⟨δ2,e2',hS2,a4,a5,hδ⟩=>⟨δ2,e2',?_⟩
 ·rintro i v δ S2 hv ⟨rfl,a4,a5,rfl⟩
  obtain⟨x,hx,rfl⟩:=NT.gS hv
  generalize hm:(fun p=>(os.take i).any fun x=>brk safe (pt (Wd c ins gs [] []) x p) (pt (Wd c ins gs turned []) x p))=m
  have hnext:(fun p=>(os.take (i+1)).any fun x=>brk safe (pt (Wd c ins gs [] []) x p) (pt (Wd c ins gs turned []) x p))=fun p=>m p || brk safe (pt (Wd c ins gs [] []) x p) (pt (Wd c ins gs turned []) x p):=by
   funext p
   rw[List.take_add_one,hx,List.any_append,←hm]
   simp
  rw[hnext]
  refine⟨[some (.loc k),some (.d (.tup (turned.map .int))),some (.d (.str (m8 safe))),some (.d (mI (2 ^ c) m)),some (.d (.tup [mI (2 ^ c) (r0 (tell (Wd c ins gs [] []) x)),mI (2 ^ c) (r1 (tell (Wd c ins gs [] []) x))])),some (.d (.tup [mI (2 ^ c) (r0 (tell (Wd c ins gs turned []) x)),mI (2 ^ c) (r1 (tell (Wd c ins gs turned []) x))]))],rfl,?_⟩
  unfold gu
  refine kN <| lU (b:=safe) (jh (a:= .str (m8 safe)) (b:= .str (Str.ofString "safe")) rfl rfl ?_) ?_
  ·show R.ok (D.bl (m8 safe==Str.ofString "safe"))=_
   congr 2
   cases safe <;> decide+kernel
  cases safe with
  | true=>
    rw[if_pos rfl]
    refine bC (by simp only[List.length_cons,List.length_nil,List.length_set];omega) <| cF (az (az (a:=mI (2 ^ c) m) rfl (az (az rfl rfl y9) (az rfl rfl AK) (p9 _ _ _)) (tO _ _ _)) (az (az rfl rfl AK) (az rfl rfl y9) (p9 _ _ _)) (tO _ _ _)) ⟨_,rfl,rfl,some (.d (.tup [mI (2 ^ c) (r0 (tell (Wd c ins gs [] []) x)),mI (2 ^ c) (r1 (tell (Wd c ins gs [] []) x))])),some (.d (.tup [mI (2 ^ c) (r0 (tell (Wd c ins gs turned []) x)),mI (2 ^ c) (r1 (tell (Wd c ins gs turned []) x))])),?_⟩
    simp only[List.set_cons_succ,List.set_cons_zero]
    congr 6
    refine uK fun p _=>?_
    rw[Bool.or_assoc];rfl
  | false=>
    rw[if_neg (by decide)]
    refine bC (by simp only[List.length_cons,List.length_nil,List.length_set];omega) <| cF (az (az (a:=mI (2 ^ c) m) rfl (az (az rfl rfl y9) (az rfl rfl y9) (qQ _ _ _)) (tO _ _ _)) (az (az rfl rfl AK) (az rfl rfl AK) (qQ _ _ _)) (tO _ _ _)) ⟨_,rfl,rfl,some (.d (.tup [mI (2 ^ c) (r0 (tell (Wd c ins gs [] []) x)),mI (2 ^ c) (r1 (tell (Wd c ins gs [] []) x))])),some (.d (.tup [mI (2 ^ c) (r0 (tell (Wd c ins gs turned []) x)),mI (2 ^ c) (r1 (tell (Wd c ins gs turned []) x))])),?_⟩
    simp only[List.set_cons_succ,List.set_cons_zero]
    congr 6
    refine uK fun p _=>?_
    rw[Bool.or_assoc];rfl
 rw[List.length_map,List.length_map,List.take_length] at hδ
 subst hδ hS2
 exact eA <| cF (d:=mI (2 ^ c) (EM safe c ins gs os turned)) rfl ⟨_,rfl,by unfold eQ;rfl,⟨[],by simp⟩,_,by unfold res;rfl,h⟩
end
end K23
end
section
set_option maxRecDepth 100000
set_option maxHeartbeats 4000000
namespace K23
open PySem PySem.Spec PyProof.Rows L2 L3 MT
noncomputable def nZ(ps:List Nat):List Int:=ps.map fun(n:Nat)=>(n:Int)
theorem DC(ps:List Nat):(nZ ps).map D.int=ps.map nI:=by unfold nZ;rw [List.map_map];rfl
theorem r_(ps:List Nat)(i:Nat):(nZ ps).contains (i:Int)=ps.contains i:=by
 rw[Bool.eq_iff_iff]
 unfold nZ
 simp only[List.contains_iff_mem,List.mem_map]
 exact⟨fun⟨a,ha,e⟩=>(by rw[←Int.ofNat_inj.mp e];exact ha),fun h=>⟨i,h,rfl⟩⟩
section
variable {c:Nat} {ins:List (Str × Nat)} {gs:List Gt} {os:List (Str × List Nat)} {S:aF} {k:Nat} {safe:Bool}
theorem rW:(i8 gs).length≤gs.length:=by
 unfold i8
 exact Nat.le_trans (List.length_filter_le _ _) (by rw[List.length_range];exact Nat.le_refl _)
end
end K23
end
section
set_option maxRecDepth 100000
set_option maxHeartbeats 4000000
namespace K23
open PySem PySem.Spec PyProof.Rows L2 L3 MT
section
variable {gs:List Gt}
end
section
variable {S:aF} {δ:DE} {k q i:Nat} {ks:List Int}
theorem jy{ds:List D}(e:S[q]? =some (.lst ds)):res S (.loc q)=some (.lst ds):=by unfold res;rw [e]
end
theorem Ag(c:Int)(n:Nat):(List.replicate n [D.int c]).flatten=(List.replicate n c).map D.int:=by
 induction n with
 | zero=>rfl
 | succ n ih=>rw [List.replicate_succ,List.flatten_cons,ih,List.replicate_succ];rfl
theorem Eo{f:aq→R (List D)}{g:FD}{δ:aq}{ds:List D}{n:Nat}(h1:f δ= .ok ds)(h2:g δ= .ok (.int n))(hn:n < 1000000)(hl:ds.length*n≤sizeLine):C_ f g δ= .ok (List.replicate n ds).flatten:=by
 unfold C_
 rw[h1,R.aP,h2,R.aP]
 show R.bt (decide (0≤(n:Int)∧(n:Int) < 1000000∧ds.length*(n:Int).toNat≤sizeLine)) _=_
 rw[bQ _ ⟨by omega,by omega,by rw[Int.toNat_natCast];exact hl⟩,Int.toNat_natCast]
noncomputable def pv(l:List (Str × Nat))(gs:List Gt)(ms:List M)(p n:Nat):Bool:=cu (rh gs [] (ft l ms [] l.length) gs.length) n p
structure L0 (l:List (Str × Nat)) (ks:List Int):Prop where
 len:ks.length=lS l
 v:∀n,n < ks.length→∃j:Nat,j < l.length∧ks.getD n 0=(j:Int)∧∀ms:List M,l.length≤ms.length→cu (ft l ms [] l.length) n=ms.getD j fun _=>false
structure KI (l:List (Str × Nat)) (gs:List Gt) (ks:List Int):Prop where
 len:ks.length=lS l+gs.length
 b:∀n,n < ks.length→ks.getD n 0 < (l.length:Int)+gs.length
 v:∀ms:List M,ms.length=l.length→∀p n n',n < ks.length→n' < ks.length→ks.getD n 0=ks.getD n' 0→pv l gs ms p n=pv l gs ms p n'
section
variable {l:List (Str × Nat)} {gs:List Gt} {g:Gt} {ms:List M} {p n:Nat} {ks:List Int}
end
theorem wc.app{k:Nat}{S X:aF}(p:wc k S)(hX:Flat X):wc k (S++X):=by
 have h:=p.lt
 obtain⟨hL,a,c,e⟩:=p
 exact⟨fun o ho=>(List.mem_append.mp ho).elim (hL o) (hX o),a,c,by rw[List.getElem?_append_left h];exact e⟩
theorem Ev.split{k:Nat}{S X S2:aF}(v:Ev k (S++X) S2)(hk:k < S.length):∃S',S2=S'++X∧Ev k S S':=by
 have hl:=v.len
 rw[List.length_append] at hl
 refine⟨S2.take S.length,?_,⟨v.p.1.take _,?_⟩,by rw[List.length_take];omega,fun j hj=>?_⟩
 ·have e:S2.drop S.length=X:=by
   refine List.ext_getElem? fun i=>?_
   rw[List.getElem?_drop,v.oth _ (by omega),List.getElem?_append_right (by omega),show S.length+i - S.length=i by omega]
  rw[←e,List.take_append_drop]
 ·obtain⟨_,a,c,e⟩:=v.p
  exact⟨a,c,by rw[List.getElem?_take_of_lt hk];exact e⟩
 ·by_cases q:j < S.length
  ·rw[List.getElem?_take_of_lt q,v.oth j hj,List.getElem?_append_left q]
  ·rw[List.getElem?_eq_none (by rw[List.length_take];omega),List.getElem?_eq_none (by omega)]
theorem oQ(a:List D):Flat [SO.lst a]:=fun o ho=>by rw[List.mem_singleton.mp ho];exact rp _
theorem AB(a b:List D):Flat [SO.lst a,SO.lst b]:=fun o ho=>by
 simp only[List.mem_cons,List.not_mem_nil,or_false] at ho
 rcases ho with rfl | rfl <;> exact rp _
theorem t1{S:aF}{a b d:SO}:(S++[a,b,d])[S.length]? =some a:=by rw[List.getElem?_append_right (Nat.le_refl _),Nat.sub_self];rfl
theorem t2{S:aF}{a b d:SO}:(S++[a,b,d])[S.length+1]? =some b:=by rw[List.getElem?_append_right (by omega),show S.length+1 - S.length=1 by omega];rfl
theorem t3{S:aF}{a b d:SO}:(S++[a,b,d])[S.length+2]? =some d:=by rw[List.getElem?_append_right (by omega),show S.length+2 - S.length=2 by omega];rfl
theorem u3{S:aF}{a b d c:SO}:(S++[a,b,d]).set (S.length+2) c=S++[a,b,c]:=by rw[List.set_append_right _ _ (by omega),show S.length+2 - S.length=2 by omega];rfl
theorem jj{δ:DE}{S:aF}{i:Nat}{v:V3}{d:D}(h:δ[i]? =some (some v))(hr:res S v=some d):ag i (cT S δ)= .ok d:=by
 unfold ag cT
 rw[List.getElem?_map,h]
 show(match (some (match res S v with | some d=>Sl.val d | none=> .un)) with | some (.val d)=>R.ok d | _=> .no)=_
 rw[hr]
noncomputable def Lk(l:List (Str × Nat))(gs:List Gt):Prop:=∀(i:Nat) (g:Gt),gs[i]? =some g→sg (lS l+i) g
end K23
end
section
set_option maxRecDepth 100000
set_option maxHeartbeats 4000000
namespace K23
open PySem PySem.Spec PyProof.Rows L2 L3 MT
theorem vY(ps:List Nat):(List.range ps.length).map (fun a=>ps.getD a 0)=ps:=by
 refine List.ext_getElem? fun i=>?_
 rw[List.getElem?_map]
 by_cases q:i < ps.length
 ·rw[List.getElem?_range q]
  show some (ps.getD i 0)=_
  rw[List.getD_eq_getElem?_getD,List.getElem?_eq_getElem q];rfl
 ·rw[List.getElem?_eq_none (by simp;omega),List.getElem?_eq_none (by omega)];rfl
theorem jr(gs:List Gt):(i8 gs).Pairwise (· < ·):=List.Pairwise.filter _ List.pairwise_lt_range
theorem Gx{gs:List Gt}{x:Nat}(h:x∈i8 gs):x < gs.length:=List.mem_range.mp (List.mem_filter.mp h).1
theorem uq{α β:Type}(f:α→β):∀xs:List α,(xs.flatMap fun x=>[f x])=xs.map f
 | []=>rfl
 | x ::xs=>by rw[List.flatMap_cons,uq f xs];rfl
theorem DK(ps:List Nat):gH ps 1=ps.map fun x=>[x]:=by
 show((List.range ps.length).flatMap fun a=>(gH (ps.drop (a+1)) 0).map (ps.getD a 0 ::·))=_
 have:(fun a=>(gH (ps.drop (a+1)) 0).map (ps.getD a 0 ::·))=fun a=>[[ps.getD a 0]]:=by funext a;rfl
 rw[this,uq]
 conv=>rhs;rw [←vY ps]
 rw[List.map_map];rfl
theorem uo{free:List Nat}(hs:free.Pairwise (· < ·)){a:Nat}(ha:a < free.length):free.filter (fun o=>decide (o > free.getD a 0))=free.drop (a+1):=by
 have hga:free.getD a 0=free[a]:=by rw[List.getD_eq_getElem?_getD,List.getElem?_eq_getElem ha];rfl
 rw[hga]
 generalize hx:free[a]=x
 have e2:free.filter (fun o=>decide (o > x))=(free.take (a+1)++free.drop (a+1)).filter (fun o=>decide (o > x)):=by rw[List.take_append_drop]
 rw[e2,List.filter_append]
 subst hx
 have h1:(free.take (a+1)).filter (fun o=>decide (o > free[a]))=[]:=by
  rw[List.filter_eq_nil_iff]
  intro o ho
  obtain⟨i,hi,rfl⟩:=List.mem_iff_getElem.mp ho
  rw[List.length_take] at hi
  rw[List.getElem_take]
  have hle:free[i]'(by omega)≤free[a]:=by
   rcases Nat.lt_or_ge i a with z | z
   ·exact Nat.le_of_lt (List.pairwise_iff_getElem.mp hs i a (by omega) ha z)
   ·have:i=a:=by omega
    subst this;exact Nat.le_refl _
  rw[decide_eq_true_eq]
  omega
 rw[h1,List.nil_append,List.filter_eq_self]
 intro o ho
 obtain⟨i,hi,rfl⟩:=List.mem_iff_getElem.mp ho
 rw[List.length_drop] at hi
 rw[List.getElem_drop]
 exact decide_eq_true (List.pairwise_iff_getElem.mp hs a (a+1+i) ha (by omega) (by omega))
noncomputable def okN(s:List Nat)(o:Nat):Bool:=match s.getLast? with | none=>true | some l=>decide (o > l)
theorem mD{α β γ:Type}(f:α→β)(g:β→List γ):∀xs:List α,(xs.map f).flatMap g=xs.flatMap fun x=>g (f x)
 | []=>rfl
 | x ::xs=>by rw[List.map_cons,List.flatMap_cons,mD f g xs,List.flatMap_cons]
noncomputable def lA(free:List Nat)(m:Nat):List (List Nat):=(List.range (m+1)).flatMap (gH free)
theorem rn(free:List Nat)(m:Nat):lA free (m+1)=lA free m++gH free (m+1):=by
 unfold lA
 rw[List.range_succ,List.flatMap_append];simp
theorem Au{free:List Nat}(h:free.length≤40){s:Nat}(hs:s≤4):(gH free s).length≤2560000:=by
 have h1:=kC (s:=s) h
 have h2:40 ^ s≤40 ^ 4:=Nat.pow_le_pow_right (by omega) hs
 omega
theorem p6{free:List Nat}(h:free.length≤40):∀m,m≤3→(lA free m).length≤(m+1)*64000
 | 0,_=>by show([[]]++[]:List (List Nat)).length≤_;simp
 | m+1,hm=>by
   have:=p6 h m (by omega)
   have h1:=kC (s:=m+1) h
   have h2:40 ^ (m+1)≤40 ^ 3:=Nat.pow_le_pow_right (by omega) hm
   rw[rn,List.length_append];omega
end K23
end
section
set_option maxRecDepth 100000
set_option maxHeartbeats 4000000
namespace K23
open PySem PySem.Spec PyProof.Rows L2 L3 MT
noncomputable def subB(T o:List Nat):Bool:=o.all fun x=>T.contains x
noncomputable def mE(B:List Nat→Bool)(f:List (List Nat))(T:List Nat):List (List Nat):=if f.any (subB T) then f else if B T then f++[T] else f
noncomputable def n8(B:List Nat→Bool)(sets:List (List Nat)):List (List Nat):=sets.foldl (mE B) []
theorem oI(B:List Nat→Bool):∀(xs f:List (List Nat)),(xs.foldl (mE B) f).length≤f.length+xs.length
 | [],f=>by simp
 | x ::xs,f=>by
   have:=oI B xs (mE B f x)
   rw[List.foldl_cons,List.length_cons]
   have h2:(mE B f x).length≤f.length+1:=by unfold mE;split <;> (try split) <;> simp
   omega
theorem x3(B:List Nat→Bool):∀(xs f:List (List Nat)),∀T∈xs.foldl (mE B) f,T∈f∨T∈xs
 | [],f,T,h=> .inl h
 | x ::xs,f,T,h=>by
   rw[List.foldl_cons] at h
   rcases x3 B xs _ T h with q | q
   ·unfold mE at q
    split at q
    ·exact .inl q
    ·split at q
     ·rcases List.mem_append.mp q with z | z
      ·exact .inl z
      ·exact .inr (by rw[List.mem_singleton.mp z];exact List.mem_cons_self)
     ·exact .inl q
   ·exact .inr (List.mem_cons_of_mem _ q)
theorem Jn(x:Nat)(T:List Nat):tV (nI x) (bU T)= .ok (.bl (T.contains x)):=by
 have h:=tp (x:Int) (nZ T)
 rw[DC,r_] at h
 exact h
theorem wI{T o:List Nat}(ho:o.length < 1000):fK [bU T,bU o]= .ok (.bl (subB T o)):=by
 have hz:sizeLine=16777216:=sizeLine_eq
 unfold fK rq
 refine d4 (cY (aM (ds:=[.lst ((o.map fun x=>T.contains x).map .bl)]) (a_ (eJ (dm (ds:=o.map nI) (vL rfl) (by rw[List.length_map];omega) ?_)) rfl) ?_))
 ·rw[List.map_map]
  exact NT.cI nI _ fun x _=>⟨[.val (nI x), .val (bU T)],rfl,rfl,az (a:=nI x) (b:=bU T) rfl rfl (Jn x T)⟩
 ·show(match bls? ((o.map fun x=>T.contains x).map D.bl) with | some bs=>R.ok (D.bl (bs.all id)) | none=> .no)=_
  rw[oy]
  show R.ok (D.bl ((o.map fun x=>T.contains x).all id))=_
  rw[List.all_map];rfl
theorem El{a b:D}{k:Bool}(h:BR a b= .ok k):mB a b= .ok (.bl k):=by unfold mB;rw [h];rfl
theorem A0{a b:D}{k:Bool}(h:tV a b= .ok (.bl k)):gQ a b= .ok (.bl (!k)):=by
 unfold tV at h
 unfold gQ
 cases q:inD a b with
 | ok c=>rw [q] at h;cases h;rfl
 | ex c=>rw [q] at h;cases h
 | no=>rw [q] at h;cases h
section
variable {c:Nat} {l:List (Str × Nat)} {gs:List Gt} {os:List (Str × List Nat)} {S:aF} {safe:Bool} {m:Nat}
noncomputable def BT(safe:Bool)(c:Nat)(l:List (Str × Nat))(gs:List Gt)(os:List (Str × List Nat))(T:List Nat):Bool:=!(decide (jf (2 ^ c) (EM safe c l gs os (nZ T))=0))
noncomputable def nX(safe:Bool)(c:Nat)(l:List (Str × Nat))(gs:List Gt)(os:List (Str × List Nat))(m:Nat):List (List Nat):=n8 (BT safe c l gs os) (lA (i8 gs) m)
theorem Km(f:M)(N:Nat):vd (mI N f) (.int 0)= .ok (.bl (!(decide (jf N f=0)))):=by
 show R.ok (D.bl (!((jf N f:Int)==0)))=_
 congr 3
 by_cases q:jf N f=0
 ·rw[q];rfl
 ·rw[decide_eq_false q];exact beq_eq_false_iff_ne.mpr (by omega)
theorem wD{xs:List (List Nat)}{B:List Nat→Bool}(hx:∀T∈xs,T.length < 1000):∀o∈n8 B xs,o.length < 1000:=fun o ho=>by
 rcases x3 B xs [] o ho with q | q
 ·cases q
 ·exact hx o q
theorem zk(B:List Nat→Bool)(xs:List (List Nat))(T:List Nat):n8 B (xs++[T])=mE B (n8 B xs) T:=by unfold n8;rw [List.foldl_append];rfl
noncomputable def yE(nt mm lv:D)(n:Nat)(a5 a6:Option V3):DE:=[some (.d nt),some (.d mm),some (.d lv),some (.loc n),some (.loc (n+2)),a5,a6]
noncomputable def YS(S:aF)(c:Nat)(l:List (Str × Nat))(gs:List Gt)(os:List (Str × List Nat))(f:List (List Nat)):aF:=S++[.ins 1 (fG c l gs os (S.length+1)), .ins 0 (d5 c (cg l gs os)), .lst (f.map bU)]
theorem F_(hS:lT S)(f:List (List Nat)):lT (YS S c l gs os f):=by
 have:YS S c l gs os f=S++[.ins 1 (fG c l gs os (S.length+1)), .ins 0 (d5 c (cg l gs os))]++[.lst (f.map bU)]:=by unfold YS;simp
 rw[this]
 refine lT.push (FW hS ?_ rfl) (rp _)
 show(decide (S.length+1 < S.length+2) && true)=true
 rw[decide_eq_true (by omega)];rfl
theorem Bg{mm:D}{f:List (List Nat)}{T:List Nat}{a5:Option V3}(NO:kP l gs os)(hc:l.length=c)(ho:∀x∈os,1≤x.2.length∧x.2.length≤3)(hS:lT S)(hfs:∀o∈f,o.length < 1000)(hfl:f.length < 4000000) :
 W3 (jw (yE (cg l gs os) mm (.str (m8 safe)) S.length a5 (some (.d (bU T)))) (YS S c l gs os f)) fun o S2=>o= .nx (yE (cg l gs os) mm (.str (m8 safe)) S.length a5 (some (.d (bU T))))∧S2=YS S c l gs os (mE (BT safe c l gs os) f T):=by
 have hz:sizeLine=16777216:=sizeLine_eq
 have hg:(YS S c l gs os f)[S.length+2]? =some (.lst (f.map bU)):=t3
 have hk:(YS S c l gs os f)[S.length]? =some (.ins 1 (fG c l gs os (S.length+1))):=t1
 have hb:(YS S c l gs os f)[S.length+1]? =some (.ins 0 (d5 c (cg l gs os))):=t2
 unfold jw
 refine kN <| Jl (b:=f.any (subB T)) ?_ ?_
 ·have e:aO AA (aw (eNew (et (c0 (ag 4)) (bg 0) jV (aO fK (aw (ag 1) (aw (ag 0) bb))) [(Str.ofString "others")] [6])) bb) (cT (YS S c l gs os f) (yE (cg l gs os) mm (.str (m8 safe)) S.length a5 (some (.d (bU T)))))= .ok (.bl (f.any (subB T))):=by
   refine aM (ds:=[.lst ((f.map (subB T)).map .bl)]) (a_ (eJ (dm (ds:=f.map bU) (fq (jj rfl (jy hg))) (by rw[List.length_map];omega) ?_)) rfl) ?_
   ·rw[List.map_map]
    exact NT.cI bU _ fun o ho'=>⟨[.val (bU o), .val (bU T)],rfl,rfl,aM (ds:=[bU T,bU o]) rfl (wI (hfs o ho'))⟩
   ·show(match bls? ((f.map (subB T)).map D.bl) with | some bs=>R.ok (D.bl (bs.any id)) | none=> .no)=_
    rw[oy]
    show R.ok (D.bl ((f.map (subB T)).any id))=_
    rw[List.any_map];rfl
  unfold jR
  rw[e];rfl
 unfold mE
 cases hany:f.any (subB T) with
 | true=>rw [if_pos rfl,if_pos rfl];exact h_ ⟨rfl,rfl⟩
 | false=>
   rw[if_neg (by decide),if_neg (by decide)]
   refine kN <| Gg <| sv (k:=S.length) <| w_var (v:= .loc S.length) rfl ⟨_,rfl,hk,GN _ (by decide+kernel) (by decide+kernel) (by decide+kernel),?_⟩
   refine aI <| cF (d:= .tup ((nZ T).map .int)) (by rw[DC];rfl) <| aI <| cF (d:= .str (m8 safe)) rfl <| cH <| zd NO hc ho (F_ hS f) hk hb <| cF (d:= .int 0) rfl ⟨_,_,_,rfl,rfl,Km _ _,?_⟩
   show if BT safe c l gs os T then _ else _
   cases BT safe c l gs os T with
   | true=>
     rw[if_pos rfl,if_pos rfl]
     refine oH (k:=S.length+2) rfl ⟨_,hg⟩ <| cF (d:=bU T) rfl ⟨_,_,rfl,hg,by rw[List.length_map];omega,rfl,?_⟩
     unfold YS
     rw[u3,List.map_append];rfl
   | false=>rw [if_neg (by decide),if_neg (by decide)];exact h_ ⟨rfl,rfl⟩
theorem vM(NO:kP l gs os)(hc:l.length=c)(hc1:c≤10)(ho:∀x∈os,1≤x.2.length∧x.2.length≤3)(hg:gs.length≤40)(hm:m≤3)(hS:lT S){Q:V3→aF→Prop}(h:Q (.loc (S.length+2)) (YS S c l gs os (nX safe c l gs os m))) :
 W3 (iC [.d (cg l gs os), .d (nI m), .d (.str (m8 safe))] S) Q:=by
 have hz:sizeLine=16777216:=sizeLine_eq
 have hul:(i8 gs).length≤40:=Nat.le_trans rW hg
 unfold iC
 refine vc rfl ?_
 simp only[bE,fP,List.map_cons,List.map_nil,List.length_cons,List.length_nil,List.replicate,List.cons_append,List.nil_append,Nat.reduceAdd,Nat.reduceSub]
 unfold jE
 refine aY <| bC (by simp only[List.length_cons,List.length_nil,List.length_set];omega) <| Bl <| aI <| cF (d:=cg l gs os) rfl <| cH <| AH NO hc hc1 ho hS ⟨rfl,_,rfl,?_⟩
 simp only[List.set_cons_succ,List.set_cons_zero]
 refine aY <| bC (by simp only[List.length_cons,List.length_nil,List.length_set];omega) <| j6 (ds:=[]) rfl ⟨_,rfl,?_⟩
 simp only[List.set_cons_succ,List.set_cons_zero]
 have e0:TS S c l gs os++[SO.lst []]=YS S c l gs os []:=by unfold TS YS;simp
 have el:(TS S c l gs os).length=S.length+2:=by unfold TS;simp
 rw[e0,el]
 show W3 (bu _ _ (yE (cg l gs os) (nI m) (.str (m8 safe)) S.length none none) _) _
 generalize hB:BT safe c l gs os=B
 have hbl:∀i,i≤4→∀j,(n8 B ((List.range i).flatMap (gH (i8 gs))++(gH (i8 gs) i).take j)).length≤3000000:=fun i hi j=>by
  have h1:=oI B ((List.range i).flatMap (gH (i8 gs))++(gH (i8 gs) i).take j) []
  have h2:(List.range i).flatMap (gH (i8 gs))=if i=0 then [] else lA (i8 gs) (i - 1):=by
   cases i with
   | zero=>rfl
   | succ i=>rw [if_neg (by omega)];rfl
  have h3:((List.range i).flatMap (gH (i8 gs))).length≤256000:=by
   rw[h2]
   split
   ·simp
   ·have:=p6 hul (i - 1) (by omega)
    have:(i - 1+1)*64000≤4*64000:=Nat.mul_le_mul_right _ (by omega)
    omega
  have h4:((gH (i8 gs) i).take j).length≤2560000:=by
   rw[List.length_take]
   have:=Au hul hi
   omega
  rw[List.length_append] at h1
  unfold n8
  simp only[List.length_nil] at h1
  omega
 refine aY <| fA <| lu (ds:=gp 0 (m+1)) (oC (n:=m+1) (az (a:=nI m) (b:= .int 1) rfl rfl rfl) (by omega)) ?_
 refine(bH (fun i δ S2=>S2=YS S c l gs os (n8 B ((List.range i).flatMap (gH (i8 gs))))∧∃a5 a6,δ=yE (cg l gs os) (nI m) (.str (m8 safe)) S.length a5 a6)
  ⟨rfl,_,_,rfl⟩ ?_).mono fun o S2 ⟨δ2,e2',hS2,a5,a6,hδ⟩=>⟨δ2,e2',?_⟩
 ·rintro i v δ S2 hv ⟨rfl,a5,a6,rfl⟩
  obtain⟨hi,rfl⟩:=NT.BC hv
  refine⟨yE (cg l gs os) (nI m) (.str (m8 safe)) S.length (some (.d (.int i))) a6,rfl,?_⟩
  have hcs:du 4 [.lst ((i8 gs).map nI), .int i]= .ok (.lst ((gH (i8 gs) i).map bU)):=px 3 i (i8 gs) (by omega) (by omega) (by omega)
  unfold mf
  refine fA <| ot <| tw <| aI <| w_fld (k:=S.length) <| w_var (v:= .loc S.length) rfl ⟨_,_,rfl,t1,En,aI <| cF (d:= .int i) rfl <| cH ⟨[.lst ((i8 gs).map nI), .int i],_,rfl,hcs,_,rfl,?_⟩⟩
  refine(bH (fun j δ S3=>S3=YS S c l gs os (n8 B ((List.range i).flatMap (gH (i8 gs))++(gH (i8 gs) i).take j))∧∃a6,δ=yE (cg l gs os) (nI m) (.str (m8 safe)) S.length (some (.d (.int i))) a6)
   ⟨by simp,_,rfl⟩ ?_).mono fun o S3 ⟨δ3,e3,hS3,b6,hδ3⟩=>⟨δ3,e3,?_,_,_,hδ3⟩
  ·rintro j v δ S3 hv ⟨rfl,b6,rfl⟩
   obtain⟨T,hT,rfl⟩:=NT.gS hv
   refine⟨yE (cg l gs os) (nI m) (.str (m8 safe)) S.length (some (.d (.int i))) (some (.d (bU T))),rfl,?_⟩
   refine(Bg NO hc ho hS (wD fun o ho'=>?_) (Nat.lt_of_le_of_lt (hbl i (by omega) j) (by omega))).mono fun o S4 ⟨e4,hS4⟩=>⟨_,e4,?_,_,rfl⟩
   ·rcases List.mem_append.mp ho' with q | q
    ·obtain⟨s,hs,hq⟩:=List.mem_flatMap.mp q
     rw[List.mem_range] at hs
     rw[(ij hq).1];omega
    ·rw[(ij (List.mem_of_mem_take q)).1];omega
   ·rw[hS4,hB,List.take_add_one,hT,←List.append_assoc,show(some T).toList=[T] from rfl,zk]
  ·rw[List.length_map,List.length_map,List.take_length] at hS3
   rw[hS3,List.range_succ,List.flatMap_append]
   simp
 ·subst hδ hS2
  rw[NT.uu]
  unfold yE
  refine eA <| w_var (v:= .loc (S.length+2)) rfl ⟨_,rfl,?_⟩
  rw[←hB]
  exact h
theorem oW(NO:kP l gs os)(hc:l.length=c)(hc1:c≤10)(ho:∀x∈os,1≤x.2.length∧x.2.length≤3)(hg:gs.length≤40)(hm:m≤3)(hS:lT S){Q:V3→aF→Prop}(h:Q (.d (.lst ((nX safe c l gs os m).map bU))) S) :
 W3 (dU [.d (cg l gs os), .d (nI m), .d (.str (m8 safe))] S) Q:=by
 have e:dU [.d (cg l gs os), .d (nI m), .d (.str (m8 safe))] S=mF fP jE [.d (cg l gs os), .d (nI m), .d (.str (m8 safe))] S:=rfl
 rw[e]
 refine kZ hS ?_
 refine vM NO hc hc1 ho hg hm hS ⟨?_,⟨_,rfl⟩,_,jy t3,h⟩
 show decide (S.length≤S.length+2)=true
 exact decide_eq_true (by omega)
end
end K23
end
section
set_option maxRecDepth 100000
set_option maxHeartbeats 4000000
namespace K23
open PySem PySem.Spec PyProof.Rows L2 L3 MT
noncomputable def nS(n:Nat)(S:aF):Prop:=Flat S∧S.length=n∧∀k,k < n→wc k S
theorem C2(cs:List Int)(hc:cs.length≤63){Q:V3→aF→Prop}(h:∀(n:Nat) S1,0 < n→(n≤1∨n≤cs.length)→nS n S1→Q (.lst ((List.range n).map .loc)) S1):W3 (fV [.d (.lst (cs.map .int))] []) Q:=by
 have hz:sizeLine=16777216:=sizeLine_eq
 unfold fV
 refine vc rfl ?_
 simp only[bE,hW,List.map_cons,List.map_nil,List.length_cons,List.length_nil,List.replicate,List.cons_append,List.nil_append,Nat.reduceAdd,Nat.reduceSub]
 unfold lD
 cases cs with
 | nil=>
   refine Ai (kN (lU (b:=true) rfl ?_))
   rw[if_pos rfl]
   refine eA (Hi (aI (j6 (ds:=[.int 0, .int 0]) (oE rfl (by simp;omega)) (cH ⟨by simp;omega,_,rfl,_,rfl,?_⟩))))
   refine h 1 _ (by omega) (.inl (Nat.le_refl _)) ⟨oQ _,rfl,fun k hk=>⟨oQ _,0,0,?_⟩⟩
   ·obtain rfl:k=0:=by omega
    rfl
 | cons c cs=>
   refine aY (kN (lU (b:=false) ?_ ?_))
   ·refine jh (a:= .int ((c ::cs).length:Nat)) (b:= .int 0) ?_ rfl ?_
    ·exact aM (ds:=[.lst ((c ::cs).map .int)]) rfl (by rw[lj,List.length_map])
    ·have:¬(((c ::cs).length:Int)=0):=by rw[List.length_cons];omega
     show R.ok (D.bl (decide (((c ::cs).length:Int)=0)))=_
     rw[decide_eq_false this]
   rw[if_neg (by decide)]
   refine h_ ⟨_,rfl,eA (zC (lu (ds:=(c ::cs).map .int) ?_ ⟨by simp at hc ⊢;omega,?_⟩))⟩
   ·refine fq (rR (d:= .lst ((c ::cs).map .int)) (lo:=none) (hi:=some 63) rfl rfl rfl ?_)
    show R.ok (D.lst (L2.cutD _ none (some 63)))=_
    rw[wb _ (by omega),List.take_of_length_le (by simp at hc ⊢;omega)]
   generalize hcc:c ::cs=cc at hc
   have hpos:0 < cc.length:=by rw[←hcc];simp
   refine(qR (fun i ys S=>ys=(List.range i).map V3.loc∧Flat S∧S.length=i∧∀k,k < i→∃a c,S[k]? =some (.lst [.int a, .int c])) ⟨rfl,(by intro o ho;cases ho),rfl,fun k hk=>(by omega)⟩ ?_).mono fun ys S2 ⟨e,hL,hl,hp⟩=>⟨_,rfl,?_⟩
   ·rintro i v ys S hv ⟨rfl,hL,hl,hp⟩
    obtain⟨d,hd,rfl⟩:=List.mem_map.mp (List.mem_of_getElem? hv)
    obtain⟨x,_,rfl⟩:=List.mem_map.mp hd
    refine⟨_,rfl,yh ?_⟩
    rw[if_pos rfl]
    refine j6 (ds:=[.int x, .int 0]) (oE rfl (by simp;omega)) ⟨?_,hL.push (rp _),by simp [hl],fun k hk=>?_⟩
    ·rw[List.range_succ,List.map_append,hl];rfl
    ·by_cases hki:k < i
     ·obtain⟨a,c,e⟩:=hp k hki
      exact⟨a,c,by rw[List.getElem?_append_left (by omega)];exact e⟩
     ·obtain rfl:k=i:=by omega
      refine⟨x,0,?_⟩
      rw[←hl]
      exact bh _ _
   ·rw[List.length_map,List.length_map] at e hl hp
    have hm:hJ ys= .lst ((List.range cc.length).map .loc):=by
     rw[e]
     obtain⟨m,hm⟩:∃m,cc.length=m+1:=⟨cc.length - 1,by omega⟩
     rw[hm,List.range_succ_eq_map,List.map_cons]
     rfl
    rw[hm]
    exact h cc.length S2 hpos (.inr (by rw[hcc];exact Nat.le_refl _)) ⟨hL,hl,fun k hk=>⟨hL,hp k hk⟩⟩
theorem nS.ev{n k:Nat}{S S1:aF}(h:nS n S)(hk:k < n)(v:Ev k S S1):nS n S1:=⟨v.p.1,by rw[v.len];exact h.2.1,fun j hj=>by
 by_cases q:j=k
 ·subst q;exact v.p
 ·obtain⟨_,a,c,e⟩:=h.2.2 j hj
  exact⟨v.p.1,a,c,by rw[v.oth j q];exact e⟩⟩
end K23
end
section
set_option maxRecDepth 100000
set_option maxHeartbeats 4000000
namespace K23
open PySem PySem.Spec PyProof.Rows L2 L3 MT
noncomputable def hit(T G:List Nat):Bool:=G.any fun x=>T.contains x
noncomputable def ix(groups:List (List Nat))(T:List Nat):Bool:=groups.all (hit T)
theorem xy{T G:List Nat}:hit T G=true↔∃x∈G,x∈T:=by
 unfold hit
 rw[List.any_eq_true]
 exact⟨fun⟨x,h1,h2⟩=>⟨x,h1,by simpa using h2⟩,fun⟨x,h1,h2⟩=>⟨x,h1,by simpa using h2⟩⟩
theorem dX{groups:List (List Nat)}{T:List Nat}:ix groups T=true↔∀G∈groups,∃x∈G,x∈T:=by
 unfold ix
 rw[List.all_eq_true]
 exact⟨fun h G hG=>xy.mp (h G hG),fun h G hG=>xy.mpr (h G hG)⟩
structure Good (free:List Nat) (groups:List (List Nat)):Prop where
 so:free.Pairwise (· < ·)
 g:∀G∈groups,G≠[]∧G.Sublist free
noncomputable def gD(G:List Nat):D:= .lst (G.map nI)
noncomputable def nY(groups:List (List Nat)):D:= .lst (groups.map gD)
noncomputable def dK(ks:List Nat):List (Key × D):=ks.map fun(k:Nat)=>((Sum.inl (k:Int):Key),D.bl true)
noncomputable def mM(ks:List Nat)(x:Nat):List Nat:=if ks.contains x then ks else ks++[x]
theorem EN(k x:Nat):decide ((Sum.inl (k:Int):Key)=Sum.inl (x:Int))=(k==x):=by
 by_cases q:k=x
 ·subst q;simp
 ·have:¬(Sum.inl (k:Int):Key)=Sum.inl (x:Int):=fun e=>q (by have:=Sum.inl.inj e;omega)
  rw[decide_eq_false this]
  exact(beq_eq_false_iff_ne.mpr q).symm
theorem zW(ks:List Nat)(x:Nat):((dK ks).any fun kv=>decide (kv.1=(Sum.inl (x:Int):Key)))=ks.contains x:=by
 unfold dK
 rw[List.any_map]
 induction ks with
 | nil=>rfl
 | cons k ks ih=>
   rw[List.any_cons,List.contains_cons,ih]
   congr 1
   show decide ((Sum.inl (k:Int):Key)=Sum.inl (x:Int))=(x==k)
   rw[EN]
   rw[Bool.eq_iff_iff,beq_iff_eq,beq_iff_eq]
   exact⟨Eq.symm,Eq.symm⟩
theorem A6(ks:List Nat)(x:Nat):sj (dK ks) (Sum.inl (x:Int)) (.bl true)=dK (mM ks x):=by
 unfold sj
 rw[zW]
 unfold mM
 by_cases q:ks.contains x=true
 ·rw[if_pos q,if_pos q]
  unfold dK
  rw[List.map_map]
  refine List.map_congr_left fun k _=>?_
  show(if(Sum.inl (k:Int):Key)=Sum.inl (x:Int) then((Sum.inl (k:Int):Key),D.bl true) else((Sum.inl (k:Int):Key),D.bl true))=_
  split <;> rfl
 ·rw[if_neg q,if_neg q]
  unfold dK
  rw[List.map_append];rfl
theorem tY{ks:List Nat}{x y:Nat}:y∈mM ks x↔y∈ks∨y=x:=by
 unfold mM
 split
 ·rename_i h
  have h:x∈ks:=by simpa using h
  exact⟨.inl,fun z=>z.elim id fun e=>by subst e;exact h⟩
 ·simp
theorem B4{ks:List Nat}{x:Nat}(h:ks.Nodup):(mM ks x).Nodup:=by
 unfold mM
 split
 ·exact h
 ·rename_i hx
  have hx:x ∉ ks:=by simpa using hx
  rw[List.nodup_append]
  exact⟨h,by simp,fun a ha b hb=>by rw[List.mem_singleton.mp hb];intro e;subst e;exact hx ha⟩
theorem AI{ks:List Nat}{x:Nat}:(mM ks x).length≤ks.length+1:=by unfold mM;split <;> simp
noncomputable def iQ(ks G:List Nat):List Nat:=G.foldl mM ks
theorem lL:∀{G ks:List Nat} {y:Nat},y∈iQ ks G↔y∈ks∨y∈G
 | [],ks,y=>by simp [iQ]
 | x ::G,ks,y=>by
   show y∈iQ (mM ks x) G↔_
   rw[lL,tY,List.mem_cons,or_assoc]
theorem lM:∀{G ks:List Nat},(iQ ks G).length≤ks.length+G.length
 | [],ks=>by simp [iQ]
 | x ::G,ks=>by
   show(iQ (mM ks x) G).length≤_
   have:=lM (G:=G) (ks:=mM ks x)
   have:=AI (ks:=ks) (x:=x)
   rw[List.length_cons];omega
theorem qC{T:List Nat}{p q:Nat→Bool}(h:∀x∈T,p x=true→q x=true){x:Nat}(hx:x∈T)(h1:p x=false)(h2:q x=true):(T.filter p).length+1≤(T.filter q).length:=by
 induction T with
 | nil=>cases hx
 | cons y T ih=>
   rcases List.mem_cons.mp hx with rfl | hx'
   ·have hle:(T.filter p).length≤(T.filter q).length:=by
     clear ih hx
     induction T with
     | nil=>exact Nat.le_refl _
     | cons z T ih=>
       have ih':=ih fun w hw=>h w (by rcases List.mem_cons.mp hw with e | e;exact e▸List.mem_cons_self;exact List.mem_cons_of_mem _ (List.mem_cons_of_mem _ e))
       have hz:=h z (List.mem_cons_of_mem _ List.mem_cons_self)
       rw[List.filter_cons,List.filter_cons]
       cases hp:p z with
       | true=>rw [if_pos rfl,if_pos (hz hp),List.length_cons,List.length_cons];omega
       | false=>
         rw[if_neg (by decide)]
         split
         ·rw[List.length_cons];omega
         ·exact ih'
    rw[List.filter_cons,if_neg (by rw[h1];decide),List.filter_cons,if_pos h2,List.length_cons]
    omega
   ·have ih':=ih (fun z hz=>h z (List.mem_cons_of_mem _ hz)) hx'
    have hy:=h y List.mem_cons_self
    rw[List.filter_cons,List.filter_cons]
    cases hp:p y with
    | true=>rw [if_pos rfl,if_pos (hy hp),List.length_cons,List.length_cons];omega
    | false=>
      rw[if_neg (by decide)]
      split
      ·rw[List.length_cons];omega
      ·exact ih'
section
variable {S:aF} {groups:List (List Nat)} {free:List Nat}
noncomputable def cE(gs:D)(n:Nat)(c:D)(a3 a4:Option V3):DE:=[some (.d gs),some (.loc n),some (.d c),a3,a4]
theorem AU(hG:Good free groups)(hf:free.length≤40)(hl:groups.length≤300000)(hS:lT S){Q:V3→aF→Prop}
 (h:∀c:Nat,(∀T,ix groups T=true→c≤T.length)→(groups≠[]→1≤c)→Q (.d (nI c)) S):W3 (dZ [.d (nY groups)] S) Q:=by
 have hz:sizeLine=16777216:=sizeLine_eq
 unfold dZ
 refine kZ hS (vc rfl ?_)
 simp only[bE,eB,List.map_cons,List.map_nil,List.length_cons,List.length_nil,List.replicate,List.cons_append,List.nil_append,Nat.reduceAdd,Nat.reduceSub]
 unfold iO
 refine aY <| bC (by simp only[List.length_cons,List.length_nil,List.length_set];omega) <| AV ⟨_,rfl,?_⟩
 simp only[List.set_cons_succ,List.set_cons_zero]
 refine aY <| bC (by simp only[List.length_cons,List.length_nil,List.length_set];omega) <| cF (d:=nI 0) rfl ⟨_,rfl,?_⟩
 simp only[List.set_cons_succ,List.set_cons_zero]
 refine aY <| fA <| lu (ds:=groups.map gD) (fq rfl) ?_
 refine(bH (fun i δ S2=>∃(ks:List Nat) (c:Nat) (a3 a4:Option V3),S2=S++[SO.dct (dK ks)]∧ks.length≤40*i∧(∀T,ix groups T=true→c≤(T.filter fun x=>ks.contains x).length)∧(0 < i→1≤c)∧(i=0→ks=[])∧δ=cE (nY groups) S.length (nI c) a3 a4)
  ⟨[],0,none,none,rfl,by simp,fun T _=>by omega,fun z=>by omega,fun _=>rfl,rfl⟩ ?_).mono fun o S2 ⟨δ2,e2',ks,c,a3,a4,hS2,hkl,hc,hc1,_,hδ⟩=>⟨δ2,e2',?_⟩
 ·rintro i v δ S2 hv ⟨ks,c,a3,a4,rfl,hkl,hc,hc1,hc0,rfl⟩
  obtain⟨G,hGi,rfl⟩:=NT.gS hv
  have hil:=(List.getElem?_eq_some_iff.mp hGi).1
  have hGm:=List.mem_of_getElem? hGi
  obtain⟨hGn,hGs⟩:=hG.g G hGm
  have hGl:G.length≤40:=Nat.le_trans hGs.length_le hf
  have hg:(S++[SO.dct (dK ks)])[S.length]? =some (.dct (dK ks)):=bh _ _
  refine⟨cE (nY groups) S.length (nI c) (some (.d (gD G))) a4,rfl,?_⟩
  unfold jM
  refine kN <| w_not <| Ha <| tw <| aI <| oG (fun j ds S3=>S3=S++[SO.dct (dK ks)]∧ds=((G.map fun x=>ks.contains x).take j).map .bl) (lu (ds:=G.map nI) (fq rfl) ⟨by rw[List.length_map,List.length_map];omega,⟨rfl,by simp⟩,?_,?_⟩)
  ·rintro j u ds S3 hu ⟨rfl,rfl⟩
   obtain⟨x,hx,rfl⟩:=NT.gS hu
   refine⟨[some (.d (nI x)),some (.loc S.length)],rfl,yh ?_⟩
   rw[if_pos rfl]
   refine Ho <| cF (d:=nI x) rfl <| w_var (v:= .loc S.length) rfl ⟨_,_,_,rfl,rfl,hg,_,rfl,rfl,?_⟩
   rw[zW,List.take_add_one,List.getElem?_map,hx,List.map_append];rfl
  ·rintro ds S3 ⟨rfl,rfl⟩
   rw[List.length_map,List.length_map,List.take_of_length_le (by simp)]
   refine cH ⟨[.lst ((G.map fun x=>ks.contains x).map .bl)], .bl (G.any fun x=>ks.contains x),rfl,?_,_,_,rfl,rfl,?_⟩
   ·show(match bls? ((G.map fun x=>ks.contains x).map D.bl) with | some bs=>R.ok (D.bl (bs.any id)) | none=> .no)=_
    rw[oy]
    show R.ok (D.bl ((G.map fun x=>ks.contains x).any id))=_
    rw[List.any_map];rfl
   cases hany:G.any fun x=>ks.contains x with
   | true=>
     rw[if_neg (by decide)]
     refine h_ ⟨_,rfl,ks,c,_,_,rfl,by omega,hc,fun _=>?_,fun z=>by omega,rfl⟩
     refine hc1 (Nat.pos_of_ne_zero fun z=>?_)
     rw[hc0 z] at hany
     obtain⟨x,_,hx⟩:=List.any_eq_true.mp hany
     simp at hx
   | false=>
     rw[if_pos (by decide)]
     have hdis:∀x∈G,ks.contains x=false:=fun x hx=>by
      cases q:ks.contains x with
      | false=>rfl
      | true=>have:=List.any_eq_true.mpr ⟨x,hx,q⟩;rw [hany] at this;cases this
     refine aY <| bC (by unfold cE;simp only[List.length_cons,List.length_nil];omega) <| cF (d:=nI (c+1)) (az (a:=nI c) (b:= .int 1) rfl rfl rfl) ⟨_,rfl,?_⟩
     show W3 (iq _ _ _ (cE (nY groups) S.length (nI (c+1)) (some (.d (gD G))) a4) _) _
     refine fA <| lu (ds:=G.map nI) (fq rfl) ?_
     refine(bH (fun j δ S3=>∃b4,S3=S++[SO.dct (dK (iQ ks (G.take j)))]∧δ=cE (nY groups) S.length (nI (c+1)) (some (.d (gD G))) b4)
      ⟨a4,rfl,rfl⟩ ?_).mono fun o S3 ⟨δ3,e3,b4,hS3,hδ3⟩=>⟨δ3,e3,iQ ks G,c+1,some (.d (gD G)),b4,?_,?_,?_,fun _=>by omega,fun z=>by omega,hδ3⟩
     ·rintro j u δ S3 hu ⟨b4,rfl,rfl⟩
      obtain⟨x,hx,rfl⟩:=NT.gS hu
      refine⟨cE (nY groups) S.length (nI (c+1)) (some (.d (gD G))) (some (.d (nI x))),rfl,?_⟩
      unfold jF
      have hlen:=lM (G:=G.take j) (ks:=ks)
      rw[List.length_take] at hlen
      refine Bd <| cF (d:= .bl true) rfl <| w_var (v:= .loc S.length) rfl <| cF (d:=nI x) rfl ⟨_,_,_,_,rfl,rfl,rfl,bh _ _,by unfold dK;rw [List.length_map];omega,_,rfl,_,?_,rfl⟩
      rw[cG,A6,List.take_add_one,hx]
      unfold iQ
      rw[List.foldl_append];rfl
     ·rw[List.length_map,List.length_map,List.take_length] at hS3;exact hS3
     ·have:=lM (G:=G) (ks:=ks);omega
     ·intro T hT
      obtain⟨x,hxG,hxT⟩:=dX.mp hT G hGm
      have h1:=hc T hT
      have h2:=qC (T:=T) (p:=fun x=>ks.contains x) (q:=fun x=>(iQ ks G).contains x) (fun y _ hy=>by
       have hy:y∈ks:=by simpa using hy
       simpa using lL.mpr (.inl hy)) hxT (hdis x hxG) (by simpa using lL.mpr (.inr hxG))
      omega
 ·subst hδ hS2
  rw[List.length_map,List.length_map] at hc1
  unfold cE
  refine eA <| cF (d:=nI c) rfl ⟨_,rfl,by unfold eQ;rfl,⟨_,rfl⟩,_,by unfold res;rfl,h c (fun T hT=>Nat.le_trans (hc T hT) (List.length_filter_le _ _)) fun hne=>hc1 (List.length_pos_iff.mpr hne)⟩
end
end K23
end
section
set_option maxRecDepth 100000
set_option maxHeartbeats 4000000
namespace K23
open PySem PySem.Spec PyProof.Rows L2 L3 MT
noncomputable def fr(free:List Nat)(x:Nat):List Nat:=free.filter fun y=>decide (y > x)
noncomputable def left(groups:List (List Nat))(x:Nat):List (List Nat):=(groups.filter fun G=>!G.contains x).map fun G=>fr G x
noncomputable def gW(free:List Nat)(s:Nat)(groups:List (List Nat)):Option (List Nat):=(gH free s).find? (ix groups)
noncomputable def CS(free:List Nat)(groups:List (List Nat))(m:Nat):Option (List Nat)→Prop
 | none=>∀T:List Nat,T.Sublist free→ix groups T=true→m < T.length
 | some T0=>T0.Sublist free∧ix groups T0=true∧T0.length≤m∧((∀T:List Nat,T.Sublist free→ix groups T=true→m≤T.length)→gW free m groups=some T0)
theorem xn:∀{T free:List Nat},T.Sublist free→T∈gH free T.length
 | [],free,_=>by unfold gH;simp
 | x ::T,free,h=>by
   induction free with
   | nil=>cases h
   | cons y free ih=>
     have hstep:gH (y ::free) (x ::T).length=(gH free T.length).map (y ::·)++gH free (x ::T).length:=by
      show((List.range (y ::free).length).flatMap fun a=>(gH ((y ::free).drop (a+1)) T.length).map ((y ::free).getD a 0 ::·))=_
      rw[List.length_cons,List.range_succ_eq_map,List.flatMap_cons]
      congr 1
      show(List.map Nat.succ (List.range free.length)).flatMap _=(List.range free.length).flatMap fun a=>(gH (free.drop (a+1)) T.length).map (free.getD a 0 ::·)
      rw[mD]
      rfl
     rw[hstep]
     cases h with
     | cons _ h=>exact List.mem_append_right _ (ih h)
     | cons_cons _ h=>exact List.mem_append_left _ (List.mem_map_of_mem (xn h))
theorem pM:∀(s:Nat) (free T:List Nat),T∈gH free s→T.Sublist free
 | 0,free,T,h=>by unfold gH at h;rw [List.mem_singleton.mp h];exact List.nil_sublist _
 | s+1,free,T,h=>by
   unfold gH at h
   obtain⟨a,ha,h⟩:=List.mem_flatMap.mp h
   obtain⟨R,hR,rfl⟩:=List.mem_map.mp h
   rw[List.mem_range] at ha
   have:=pM s _ R hR
   have e:free.drop a=free.getD a 0 ::free.drop (a+1):=by
    rw[List.drop_eq_getElem_cons ha,List.getD_eq_getElem?_getD,List.getElem?_eq_getElem ha];rfl
   exact(e▸List.Sublist.cons_cons _ this).trans (List.drop_sublist a free)
theorem jU{free:List Nat}{x y:Nat}:y∈fr free x↔y∈free∧x < y:=by unfold fr;rw [List.mem_filter];simp
theorem Bu{free R:List Nat}{x:Nat}(hs:free.Pairwise (· < ·))(h:(x ::R).Sublist free):x∈free∧R.Sublist (fr free x):=by
 refine⟨h.subset List.mem_cons_self,?_⟩
 have hp:=(hs.sublist h)
 have hR:R=R.filter fun y=>decide (y > x):=by
  rw[eq_comm,List.filter_eq_self]
  intro y hy
  exact decide_eq_true ((List.pairwise_cons.mp hp).1 y hy)
 rw[hR]
 exact((List.sublist_cons_self x R).trans h).filter _
theorem qX{x:Nat}:∀{free:List Nat},free.Pairwise (· < ·)→x∈free→(x ::fr free x).Sublist free
 | [],_,h=>by cases h
 | y ::f,hs,h=>by
   obtain⟨h1,h2⟩:=List.pairwise_cons.mp hs
   rcases List.mem_cons.mp h with rfl | hx
   ·unfold fr
    rw[List.filter_cons,if_neg (by simp)]
    exact List.Sublist.cons_cons _ List.filter_sublist
   ·have hlt:=h1 x hx
    unfold fr
    rw[List.filter_cons,if_neg (by simp;omega)]
    exact(qX h2 hx).cons y
theorem pY{free R:List Nat}{x:Nat}(hs:free.Pairwise (· < ·))(hx:x∈free)(h:R.Sublist (fr free x)):(x ::R).Sublist free:=(List.Sublist.cons_cons x h).trans (qX hs hx)
theorem j_{groups:List (List Nat)}{R:List Nat}{x:Nat}(hR:∀y∈R,x < y):ix (left groups x) R=ix groups (x ::R):=by
 rw[Bool.eq_iff_iff,dX,dX]
 constructor
 ·intro h G hG
  by_cases q:x∈G
  ·exact⟨x,q,List.mem_cons_self⟩
  ·obtain⟨y,h1,h2⟩:=h (fr G x) (List.mem_map.mpr ⟨G,List.mem_filter.mpr ⟨hG,by simpa using q⟩,rfl⟩)
   exact⟨y,(jU.mp h1).1,List.mem_cons_of_mem _ h2⟩
 ·intro h G' hG'
  obtain⟨G,hG,rfl⟩:=List.mem_map.mp hG'
  obtain⟨hG,hx⟩:=List.mem_filter.mp hG
  have hx:x ∉ G:=by simpa using hx
  obtain⟨y,h1,h2⟩:=h G hG
  rcases List.mem_cons.mp h2 with rfl | h2
  ·exact absurd h1 hx
  ·exact⟨y,jU.mpr ⟨h1,hR y h2⟩,h2⟩
theorem vy{β:Type}{f:Nat→Option β}{v:β}{n a:Nat}(ha:a < n)(hv:f a=some v)(hn:∀b,b < a→f b=none):(List.range n).findSome? f=some v:=by
 rw[List.range_eq_range']
 have:∀(m lo:Nat),lo≤a→a < lo+m→(List.range' lo m).findSome? f=some v:=by
  intro m
  induction m with
  | zero=>intro lo h1 h2;omega
  | succ m ih=>
    intro lo h1 h2
    rw[List.range'_succ,List.findSome?_cons]
    by_cases q:lo=a
    ·subst q;rw [hv]
    ·rw[hn lo (by omega)]
     exact ih (lo+1) (by omega) (by omega)
 exact this n 0 (by omega) (by omega)
theorem qz{free:List Nat}(hs:free.Pairwise (· < ·))(s:Nat)(groups:List (List Nat)):gW free (s+1) groups=(List.range free.length).findSome? fun a=>(gW (fr free (free.getD a 0)) s (left groups (free.getD a 0))).map (free.getD a 0 ::·):=by
 unfold gW
 show((List.range free.length).flatMap fun a=>(gH (free.drop (a+1)) s).map (free.getD a 0 ::·)).find? (ix groups)=_
 rw[List.find?_flatMap]
 have cong:∀(xs:List Nat) (f g:Nat→Option (List Nat)),(∀x∈xs,f x=g x)→xs.findSome? f=xs.findSome? g:=by
  intro xs
  induction xs with
  | nil=>intro f g _;rfl
  | cons x xs ih=>intro f g h;rw [List.findSome?_cons,List.findSome?_cons,h x List.mem_cons_self,ih f g fun y hy=>h y (List.mem_cons_of_mem _ hy)]
 refine cong _ _ _ fun a ha=>?_
 rw[List.mem_range] at ha
 have hd:free.drop (a+1)=fr free (free.getD a 0):=(uo hs ha).symm
 rw[List.find?_map,hd]
 congr 1
 have cf:∀(xs:List (List Nat)) (p q:List Nat→Bool),(∀x∈xs,p x=q x)→xs.find? p=xs.find? q:=by
  intro xs
  induction xs with
  | nil=>intro p q _;rfl
  | cons x xs ih=>intro p q h;rw [List.find?_cons,List.find?_cons,h x List.mem_cons_self,ih p q fun y hy=>h y (List.mem_cons_of_mem _ hy)]
 refine cf _ _ _ fun R hR=>?_
 show ix groups (free.getD a 0 ::R)=_
 exact(j_ fun y hy=>(jU.mp ((ij hR).2 y hy)).2).symm
section
variable {free:List Nat} {groups:List (List Nat)} {last m:Nat} {ks:List Nat}
structure Nd (free:List Nat) (groups:List (List Nat)) (last:Nat) (ks:List Nat):Prop where
 good:Good free groups
 ne:groups≠[]
 up:∀G∈groups,∃y∈G,last≤y
 lo:∃G∈groups,∀y∈G,y≤last
 ks:∀x,x∈ks↔(∃G∈groups,x∈G)∧x≤last
theorem Nd.low(N:Nd free groups last ks){x:Nat}{R:List Nat}(hT:(x ::R).Sublist free)(hh:ix groups (x ::R)=true):x≤last:=by
 obtain⟨G,hG,hl⟩:=N.lo
 obtain⟨y,h1,h2⟩:=dX.mp hh G hG
 have hy:=hl y h1
 have hp:=N.good.so.sublist hT
 rcases List.mem_cons.mp h2 with rfl | h2
 ·exact hy
 ·have:=(List.pairwise_cons.mp hp).1 y h2;omega
theorem Nd.skip(N:Nd free groups last ks){x:Nat}{R:List Nat}(hT:(x ::R).Sublist free)(hh:ix groups (x ::R)=true)(hx:x ∉ ks):ix groups R=true:=by
 have hl:=N.low hT hh
 have hno:∀G∈groups,x ∉ G:=fun G hG hxG=>hx ((N.ks x).mpr ⟨⟨G,hG,hxG⟩,hl⟩)
 refine dX.mpr fun G hG=>?_
 obtain⟨y,h1,h2⟩:=dX.mp hh G hG
 rcases List.mem_cons.mp h2 with rfl | h2
 ·exact absurd h1 (hno G hG)
 ·exact⟨y,h1,h2⟩
theorem Nd.left(N:Nd free groups last ks){x:Nat}(hx:x≤last):Good (fr free x) (left groups x):=by
 refine⟨N.good.so.filter _,fun G' hG'=>?_⟩
 obtain⟨G,hG,rfl⟩:=List.mem_map.mp hG'
 obtain⟨hG,hxG⟩:=List.mem_filter.mp hG
 have hxG:x ∉ G:=by simpa using hxG
 obtain⟨y,hy,hly⟩:=N.up G hG
 have hne:y≠x:=fun e=>hxG (e▸hy)
 refine⟨fun e=>?_,(N.good.g G hG).2.filter _⟩
 have:y∈fr G x:=jU.mpr ⟨hy,by omega⟩
 rw[e] at this;cases this
theorem Nd.J7(N:Nd free groups last ks)(h:∀x∈free.filter (fun x=>ks.contains x),CS (fr free x) (K23.left groups x) m none):∀T:List Nat,T.Sublist free→ix groups T=true→m+1 < T.length
 | [],_,hh=>by
   obtain⟨G,hG⟩:=List.exists_mem_of_ne_nil _ N.ne
   obtain⟨y,_,hy⟩:=dX.mp hh G hG
   cases hy
 | x ::R,hT,hh=>by
   obtain⟨hx,hR⟩:=Bu N.good.so hT
   by_cases q:x∈ks
   ·have h1:=h x (List.mem_filter.mpr ⟨hx,by simpa using q⟩) R hR (by rw[j_ fun y hy=>(jU.mp (hR.subset hy)).2];exact hh)
    rw[List.length_cons];omega
   ·have:=Nd.J7 N h R ((List.sublist_cons_self x R).trans hT) (N.skip hT hh q)
    rw[List.length_cons];omega
theorem Nd.yes(N:Nd free groups last ks){ys zs:List Nat}{x0:Nat}{R0:List Nat}(e:free.filter (fun x=>ks.contains x)=ys++x0 ::zs)(hy:∀y∈ys,CS (fr free y) (K23.left groups y) m none)(h0:CS (fr free x0) (K23.left groups x0) m (some R0)):CS free groups (m+1) (some (x0 ::R0)):=by
 obtain⟨h1,h2,h3,h4⟩:=h0
 have hx0:x0∈free:=(List.mem_filter (p:=fun x=>ks.contains x) |>.mp (by rw[e];simp)).1
 have hgt:∀y∈R0,x0 < y:=fun y hy=>(jU.mp (h1.subset hy)).2
 refine⟨pY N.good.so hx0 h1,by rw[←j_ hgt];exact h2,by rw[List.length_cons];omega,fun hmin=>?_⟩
 rw[qz N.good.so]
 obtain⟨a0,ha0,hxa⟩:=List.mem_iff_getElem.mp hx0
 have hg0:free.getD a0 0=x0:=by rw[List.getD_eq_getElem?_getD,List.getElem?_eq_getElem ha0,hxa];rfl
 refine vy ha0 ?_ fun b hb=>?_
 ·rw[hg0,h4 fun R hR hh=>?_]
  ·rfl
  ·have:=hmin (x0 ::R) (pY N.good.so hx0 hR) (by rw[←j_ fun y hy=>(jU.mp (hR.subset hy)).2];exact hh)
   rw[List.length_cons] at this;omega
 ·have hbl:b < free.length:=by omega
  have hgb:free.getD b 0=free[b]:=by rw[List.getD_eq_getElem?_getD,List.getElem?_eq_getElem hbl];rfl
  rw[hgb]
  cases hf:gW (fr free free[b]) m (K23.left groups free[b]) with
  | none=>rfl
  | some R=>
    exfalso
    unfold gW at hf
    have hRm:=List.mem_of_find?_eq_some hf
    have hRh:=List.find?_some hf
    have hRs:=pM _ _ _ hRm
    have hRl:=(ij hRm).1
    have hbm:free[b]∈free:=List.getElem_mem hbl
    have hlt:free[b] < x0:=by rw[←hxa];exact List.pairwise_iff_getElem.mp N.good.so b a0 hbl ha0 hb
    have hT:=pY N.good.so hbm hRs
    have hh:ix groups (free[b] ::R)=true:=by rw[←j_ fun y hy=>(jU.mp (hRs.subset hy)).2];exact hRh
    by_cases q:free[b]∈ks
    ·have hin:free[b]∈free.filter (fun x=>ks.contains x):=List.mem_filter.mpr ⟨hbm,by simpa using q⟩
     rw[e] at hin
     have hso:(ys++x0 ::zs).Pairwise (· < ·):=by rw[←e];exact N.good.so.filter _
     have hys:free[b]∈ys:=by
      rcases List.mem_append.mp hin with z | z
      ·exact z
      ·rcases List.mem_cons.mp z with z | z
       ·omega
       ·have:=(List.pairwise_cons.mp (List.pairwise_append.mp hso).2.1).1 _ z
        omega
     have:=hy _ hys R hRs hRh
     omega
    ·have h5:=hmin R ((List.sublist_cons_self _ R).trans hT) (N.skip hT hh q)
     omega
end
end K23
end
section
set_option maxRecDepth 100000
set_option maxHeartbeats 4000000
namespace K23
open PySem PySem.Spec PyProof.Rows L2 L3 MT
theorem Ji(x:Nat)(ns:List Nat):tV (nI x) (.lst (ns.map nI))= .ok (.bl (ns.contains x)):=by
 have h:tV (.int (x:Int)) (.lst ((nZ ns).map .int))= .ok (.bl ((nZ ns).contains (x:Int))):=by
  show((match ints? ((nZ ns).map D.int) with | some ss=>R.ok (ss.contains (x:Int)) | none=> .no)).bind (fun b=>R.ok (D.bl b))=_
  rw[L2.ints_map];rfl
 rw[DC,r_] at h
 exact h
theorem GW(y x:Nat):zq (nI y) (nI x)= .ok (.bl (decide (y > x))):=by
 show R.ok (D.bl (decide ((y:Int) > (x:Int))))=_
 congr 2
 by_cases q:y > x
 ·rw[decide_eq_true q,decide_eq_true (by omega)]
 ·rw[decide_eq_false q,decide_eq_false (by omega)]
theorem JH(y x:Nat):vF (nI y) (nI x)= .ok (.bl (decide (y≤x))):=by
 show R.ok (D.bl (decide ((y:Int)≤(x:Int))))=_
 congr 2
 by_cases q:y≤x
 ·rw[decide_eq_true q,decide_eq_true (by omega)]
 ·rw[decide_eq_false q,decide_eq_false (by omega)]
theorem yy{G:List Nat}{x:Nat}(hl:G.length < 1000):jb [gD G,nI x]= .ok (gD (fr G x)):=by
 have hz:sizeLine=16777216:=sizeLine_eq
 unfold jb ui
 refine d4 (cY (eJ (dm (ds:=G.map nI) (fq rfl) (by rw[List.length_map];omega) ?_)))
 exact NT.jv (fun y=>decide (y > x)) nI nI fun y _=>⟨[.val (nI y), .val (nI x)],rfl,jh (a:=nI y) (b:=nI x) rfl rfl (GW y x),fun _=>rfl⟩
theorem DN{groups:List (List Nat)}{x:Nat}(hl:∀G∈groups,G.length < 1000)(hn:groups.length≤300000):dM [nY groups,nI x]= .ok (nY (left groups x)):=by
 have hz:sizeLine=16777216:=sizeLine_eq
 unfold dM kY
 refine d4 (cY (eJ (dm (ds:=groups.map gD) (fq rfl) (by rw[List.length_map];omega) ?_)))
 unfold left
 rw[List.map_map]
 exact NT.jv (fun G:List Nat=>!G.contains x) gD _ fun G hG=>⟨[.val (gD G), .val (nI x)],rfl,jh (a:=nI x) (b:=gD G) rfl rfl (A0 (Ji x G)),fun _=>aM (ds:=[gD G,nI x]) rfl (yy (hl G hG))⟩
theorem Hu{G:List Nat}{l:Nat}(h:G.getLast? =some l):cR (gD G) (.int (-1))= .ok (nI l):=by
 refine wH ?_
 unfold nR qj
 have hp:0 < G.length:=by
  cases G with
  | nil=>cases h
  | cons _ _=>simp
 rw[List.length_map,if_neg (by omega),if_pos (by omega)]
 show(G.map nI)[(((-1:Int))+(G.length:Int)).toNat]? =_
 rw[List.getElem?_map,show((-1:Int)+(G.length:Int)).toNat=G.length - 1 by omega,←List.getLast?_eq_getElem?,h]
 rfl
theorem qU{α:Type}{t:FG}{body:FZ}{S:aF}(g:α→V3)(E:DE→Prop)(N:α→Prop)(Y:α→V3→Prop):∀{xs:List α} {δ:DE},E δ→
 (∀x∈xs,∀δ,E δ→∃δ1,t (g x) δ=some δ1∧W3 (body δ1 S) fun o S1=>S1=S∧((∃δ2,o= .nx δ2∧E δ2∧N x)∨∃v,o= .rt v∧Y x v))→
 W3 (iB t body (xs.map g) δ S) fun o S1=>S1=S∧((∃δ2,o= .nx δ2∧E δ2∧∀x∈xs,N x)∨∃ys x zs v,xs=ys++x ::zs∧(∀y∈ys,N y)∧o= .rt v∧Y x v)
 | [],δ,h0,_=>W3.ok ⟨rfl, .inl ⟨δ,rfl,h0,fun x hx=>by cases hx⟩⟩
 | x ::xs,δ,h0,hs=>by
   obtain⟨δ1,e1,o,S1,e2',rfl,h2⟩:=hs x List.mem_cons_self δ h0
   rw[List.map_cons]
   unfold iB
   rw[e1]
   refine W3.bind ⟨_,_,e2',?_⟩
   rcases h2 with⟨δ2,rfl,hE,hN⟩ | ⟨v,rfl,hY⟩
   ·refine(qU g E N Y hE fun y hy=>hs y (List.mem_cons_of_mem _ hy)).mono fun o S2 ⟨eS,hq⟩=>⟨eS,?_⟩
    rcases hq with⟨δ3,e3,hE3,hN3⟩ | ⟨ys,z,zs,v,exs,hys,eo,hY⟩
    ·exact .inl ⟨δ3,e3,hE3,fun y hy=>(List.mem_cons.mp hy).elim (fun e=>e▸hN) (hN3 y)⟩
    ·exact .inr ⟨x ::ys,z,zs,v,by rw[exs];rfl,fun y hy=>(List.mem_cons.mp hy).elim (fun e=>e▸hN) (hys y),eo,hY⟩
   ·exact W3.ok ⟨rfl, .inr ⟨[],x,xs,v,rfl,(fun y hy=>by cases hy),rfl,hY⟩⟩
noncomputable def rD:Option (List Nat)→D | none=> .bX | some T=>bU T
section
variable {free:List Nat} {groups:List (List Nat)}
noncomputable def fE(gs m:D)(a2 a3 a4 a5 a6:Option V3):DE:=[some (.d gs),some (.d m),a2,a3,a4,a5,a6]
theorem CA(hG:Good free groups)(hne:groups≠[])(hl:groups.length≤300000){δ:aq}(h0:ag 0 δ= .ok (nY groups)):∃last:Nat,aO lZ (aw (eNew (et (c0 (ag 0)) (bg 0) jV (e2 cR (ag 0) (yp (eC (.int 1)))) [(Str.ofString "group")] [])) bb) δ= .ok (nI last)∧(∀G∈groups,∃y∈G,last≤y)∧∃G∈groups,∀y∈G,y≤last:=by
 have hz:sizeLine=16777216:=sizeLine_eq
 let mx:List Nat→Nat:=fun G=>G.getLast?.getD 0
 have hmx:∀G∈groups,G.getLast? =some (mx G)∧mx G∈G∧∀y∈G,y≤mx G:=fun G hGm=>by
  obtain⟨h1,h2⟩:=hG.g G hGm
  obtain⟨l,hl'⟩:∃l,G.getLast? =some l:=⟨_,List.getLast?_eq_some_getLast h1⟩
  have e:mx G=l:=by show G.getLast?.getD 0=l;rw [hl'];rfl
  rw[e]
  refine⟨hl',List.mem_of_getLast? hl',fun y hy=>?_⟩
  have hs:=hG.so.sublist h2
  obtain⟨i,hi,rfl⟩:=List.mem_iff_getElem.mp hy
  rw[List.getLast?_eq_getElem?] at hl'
  obtain⟨h3,h4⟩:=List.getElem?_eq_some_iff.mp hl'
  rcases Nat.lt_or_ge i (G.length - 1) with q | q
  ·exact Nat.le_of_lt (by rw[←h4];exact List.pairwise_iff_getElem.mp hs i _ hi h3 q)
  ·have:i=G.length - 1:=by omega
   subst this;omega
 obtain⟨G0,gr,rfl⟩:∃G0 gr,groups=G0 ::gr:=by
  cases groups with
  | nil=>exact absurd rfl hne
  | cons a r=>exact⟨a,r,rfl⟩
 have hcomp:eNew (et (c0 (ag 0)) (bg 0) jV (e2 cR (ag 0) (yp (eC (.int 1)))) [(Str.ofString "group")] []) δ= .ok (.lst (((G0 ::gr).map fun G=>((mx G:Nat):Int)).map .int)):=by
  refine eJ (dm (ds:=(G0 ::gr).map gD) (fq h0) (by rw[List.length_map];omega) ?_)
  rw[List.map_map]
  exact NT.cI gD _ fun G hGm=>⟨[.val (gD G)],rfl,rfl,az (a:=gD G) (b:= .int (-1)) rfl rfl (Hu (hmx G hGm).1)⟩
 obtain⟨h1,h2⟩:=L2.fold_min (gr.map fun G=>((mx G:Nat):Int)) ((mx G0:Nat):Int)
 obtain⟨G1,hG1,e1⟩:∃G∈G0 ::gr,((mx G:Nat):Int)=(gr.map fun G=>((mx G:Nat):Int)).foldl min ((mx G0:Nat):Int):=by
  rcases List.mem_cons.mp h1 with q | q
  ·exact⟨G0,List.mem_cons_self,q.symm⟩
  ·obtain⟨G,hGm,e⟩:=List.mem_map.mp q
   exact⟨G,List.mem_cons_of_mem _ hGm,e⟩
 refine⟨mx G1,?_,fun G hGm=>?_,G1,hG1,(hmx G1 hG1).2.2⟩
 ·refine aM (a_ hcomp rfl) ?_
  show(match ints? (((G0 ::gr).map fun G=>((mx G:Nat):Int)).map D.int) with | some (n ::ns)=>R.ok (D.int (ns.foldl min n)) | _=> .no)=_
  rw[L2.ints_map]
  show R.ok (D.int ((gr.map fun G=>((mx G:Nat):Int)).foldl min ((mx G0:Nat):Int)))=_
  rw[←e1];rfl
 ·refine⟨mx G,(hmx G hGm).2.1,?_⟩
  have h3:(gr.map fun G=>((mx G:Nat):Int)).foldl min ((mx G0:Nat):Int)≤((mx G:Nat):Int):=by
   refine h2 _ ?_
   rcases List.mem_cons.mp hGm with rfl | q
   ·exact List.mem_cons_self
   ·exact List.mem_cons_of_mem _ (List.mem_map.mpr ⟨G,q,rfl⟩)
  rw[←e1] at h3
  omega
theorem Du{ks:List Nat}(hs:free.Pairwise (· < ·))(hn:ks.Nodup)(hk:∀x∈ks,x∈free):nG (nZ ks)=nZ (free.filter fun x=>ks.contains x):=by
 have hnf:free.Nodup:=hs.imp fun h=>Nat.ne_of_lt h
 have hperm:(free.filter fun x=>ks.contains x).Perm ks:=(List.perm_ext_iff_of_nodup (hnf.filter _) hn).mpr fun x=>by
  rw[List.mem_filter]
  exact⟨fun h=>by simpa using h.2,fun h=>⟨hk x h,by simpa using h⟩⟩
 refine(ua (a:=nZ (free.filter fun x=>ks.contains x)) (hperm.map _) ?_).symm
 unfold nZ
 rw[List.pairwise_map]
 exact(hs.filter _).imp fun h=>by omega
theorem z7:∀(n m:Nat),m < n→∀(free:List Nat) (groups:List (List Nat)) (S:aF),Good free groups→free.length≤40→groups.length≤300000→lT S→∀(Q:V3→aF→Prop),(∀r,CS free groups m r→Q (.d (rD r)) S)→W3 (bS n [.d (nY groups), .d (nI m)] S) Q
 | 0,m,hm=>by omega
 | n+1,m,hm=>by
   intro free groups S hG hf hl hS Q h
   have hz:sizeLine=16777216:=sizeLine_eq
   have hgl:∀G∈groups,G.length < 1000:=fun G hGm=>by have:=(hG.g G hGm).2.length_le;omega
   show W3 (mF d8 (gZ (bS n)) _ S) Q
   refine kZ hS (vc rfl ?_)
   simp only[bE,d8,List.map_cons,List.map_nil,List.length_cons,List.length_nil,List.replicate,List.cons_append,List.nil_append,Nat.reduceAdd,Nat.reduceSub]
   unfold gZ
   have fin:∀(r:Option (List Nat)) (T:aF),CS free groups m r→eQ S.length (.d (rD r))=true∧(∃U,S++T=S++U)∧∃d,res (S++T) (.d (rD r))=some d∧Q (.d d) S:=fun r T hr=>⟨by unfold eQ;rfl,⟨T,rfl⟩,_,by unfold res;rfl,h r hr⟩
   refine pQ <| kN <| Gg <| eK <| aI <| cF (d:=nY groups) rfl <| cH <| AU hG hf hl hS fun c hc hc1=>cF (d:=nI m) rfl ⟨_,_,_,rfl,rfl,GW c m,?_⟩
   by_cases hcm:c > m
   ·rw[decide_eq_true hcm,if_pos rfl]
    refine eA <| cF (d:= .bX) rfl ⟨_,rfl,?_⟩
    have:=fin none [] fun T _ hh=>by have:=hc T hh;omega
    rw[List.append_nil] at this
    exact this
   rw[decide_eq_false hcm,if_neg (by decide)]
   refine h_ ?_
   by_cases hne:groups=[]
   ·subst hne
    refine pQ <| kN <| lU (b:=true) rfl ?_
    rw[if_pos rfl]
    refine eA <| cF (d:=bU []) (gB rfl (by simp)) ⟨_,rfl,?_⟩
    have:=fin (some []) [] ⟨List.nil_sublist _,rfl,by simp,fun hmin=>?_⟩
    ·rw[List.append_nil] at this
     exact this
    ·have h0:=hmin [] (List.nil_sublist _) rfl
     have:m=0:=by simpa using h0
     subst this
     rfl
   obtain⟨G0,gr,hgr⟩:∃G0 gr,groups=G0 ::gr:=by
    cases groups with
    | nil=>exact absurd rfl hne
    | cons a r=>exact⟨a,r,rfl⟩
   refine pQ <| kN <| lU (b:=false) (by rw[hgr];rfl) ?_
   rw[if_neg (by decide)]
   refine h_ ?_
   have hm1:1≤m:=by have:=hc1 hne;omega
   obtain⟨last,elast,hup,hlo⟩:=CA hG hne hl (δ:=down [some (.d (nY groups)),some (.d (nI m)),none,none,none,none,none]) rfl
   refine aY <| bC (by simp only[List.length_cons,List.length_nil,List.length_set];omega) <| cF (d:=nI last) elast ⟨_,rfl,?_⟩
   simp only[List.set_cons_succ,List.set_cons_zero]
   refine aY <| bC (by simp only[List.length_cons,List.length_nil,List.length_set];omega) <| AV ⟨_,rfl,?_⟩
   simp only[List.set_cons_succ,List.set_cons_zero]
   refine aY <| fA <| lu (ds:=groups.map gD) (fq rfl) ?_
   refine(bH (fun i δ S2=>∃(ks:List Nat) (a4 a5:Option V3),S2=S++[SO.dct (dK ks)]∧ks.Nodup∧(∀x,x∈ks↔(∃G∈groups.take i,x∈G)∧x≤last)∧δ=fE (nY groups) (nI m) (some (.d (nI last))) (some (.loc S.length)) a4 a5 none)
    ⟨[],none,none,rfl,List.nodup_nil,fun x=>by simp,rfl⟩ ?_).mono fun o S2 ⟨δ2,e2',ks,a4,a5,hS2,hnd,hks,hδ⟩=>⟨δ2,e2',?_⟩
   ·rintro i v δ S2 hv ⟨ks,a4,a5,rfl,hnd,hks,rfl⟩
    obtain⟨G,hGi,rfl⟩:=NT.gS hv
    have hGm:=List.mem_of_getElem? hGi
    have hGs:=(hG.g G hGm).2
    have hkf:∀x∈ks,x∈free:=fun x hx=>by
     obtain⟨⟨G',hG',hx'⟩,_⟩:=(hks x).mp hx
     exact(hG.g G' (List.mem_of_mem_take hG')).2.subset hx'
    refine⟨fE (nY groups) (nI m) (some (.d (nI last))) (some (.loc S.length)) (some (.d (gD G))) a5 none,rfl,?_⟩
    unfold i4
    refine fA <| lu (ds:=G.map nI) (fq rfl) ?_
    refine(bH (fun j δ S3=>∃(ks':List Nat) (b5:Option V3),S3=S++[SO.dct (dK ks')]∧ks'.Nodup∧(∀x,x∈ks'↔x∈ks∨(x∈G.take j∧x≤last))∧δ=fE (nY groups) (nI m) (some (.d (nI last))) (some (.loc S.length)) (some (.d (gD G))) b5 none)
     ⟨ks,a5,rfl,hnd,fun x=>by simp,rfl⟩ ?_).mono fun o S3 ⟨δ3,e3,ks',b5,hS3,hnd',hks',hδ3⟩=>⟨δ3,e3,ks',_,b5,hS3,hnd',fun x=>?_,hδ3⟩
    ·rintro j u δ S3 hu ⟨ks',b5,rfl,hnd',hks',rfl⟩
     obtain⟨x,hx,rfl⟩:=NT.gS hu
     have hxG:=List.mem_of_getElem? hx
     refine⟨fE (nY groups) (nI m) (some (.d (nI last))) (some (.loc S.length)) (some (.d (gD G))) (some (.d (nI x))) none,rfl,?_⟩
     unfold je
     have hkl:ks'.length≤40:=by
      have hsub:∀y∈ks',y∈free:=fun y hy=>by
       rcases(hks' y).mp hy with q | q
       ·exact hkf y q
       ·exact hGs.subset (List.mem_of_mem_take q.1)
      exact Nat.le_trans (L2.vK _ _ hnd' hsub) hf
     have hstep:∀y,(y∈ks∨(y∈G.take (j+1)∧y≤last))↔(y∈ks'∨(y=x∧x≤last)):=fun y=>by
      rw[hks' y,List.take_add_one,hx]
      simp only[Option.toList_some,List.mem_append,List.mem_singleton]
      constructor
      ·rintro(q | ⟨q | q,q2⟩)
       ·exact .inl (.inl q)
       ·exact .inl (.inr ⟨q,q2⟩)
       ·exact .inr ⟨q,q▸q2⟩
      ·rintro((q | ⟨q,q2⟩) | ⟨q,q2⟩)
       ·exact .inl q
       ·exact .inr ⟨.inl q,q2⟩
       ·exact .inr ⟨.inr q,q▸q2⟩
     refine kN <| lU (b:=decide (x≤last)) (jh (a:=nI x) (b:=nI last) rfl rfl (JH x last)) ?_
     by_cases q:x≤last
     ·rw[decide_eq_true q,if_pos rfl]
      refine Bd <| cF (d:= .bl true) rfl <| w_var (v:= .loc S.length) rfl <| cF (d:=nI x) rfl ⟨_,_,_,_,rfl,rfl,rfl,bh _ _,by unfold dK;rw [List.length_map];omega,_,rfl,mM ks' x,_,?_,B4 hnd',fun y=>?_,rfl⟩
      ·rw[cG,A6]
      ·rw[tY,hstep y]
       exact⟨fun z=>z.elim .inl fun e=> .inr ⟨e,q⟩,fun z=>z.elim .inl fun e=> .inr e.1⟩
     ·rw[decide_eq_false q,if_neg (by decide)]
      refine h_ ⟨_,rfl,ks',_,rfl,hnd',fun y=>?_,rfl⟩
      rw[hstep y]
      exact⟨.inl,fun z=>z.elim id fun e=>absurd e.2 q⟩
    ·rw[List.length_map,List.length_map,List.take_length] at hks'
     rw[hks' x,hks x,List.take_add_one,hGi]
     simp only[Option.toList_some,List.mem_append,List.mem_singleton]
     constructor
     ·rintro(⟨⟨G',h1,h2⟩,h3⟩ | ⟨h1,h2⟩)
      ·exact⟨⟨G', .inl h1,h2⟩,h3⟩
      ·exact⟨⟨G, .inr rfl,h1⟩,h2⟩
     ·rintro⟨⟨G',h1 | h1,h2⟩,h3⟩
      ·exact .inl ⟨⟨G',h1,h2⟩,h3⟩
      ·exact .inr ⟨h1▸h2,h3⟩
   rw[List.length_map,List.length_map,List.take_length] at hks
   subst hδ hS2
   have N:Nd free groups last ks:=⟨hG,hne,hup,hlo,hks⟩
   have hkf:∀x∈ks,x∈free:=fun x hx=>by
    obtain⟨⟨G',hG',hx'⟩,_⟩:=(hks x).mp hx
    exact(hG.g G' hG').2.subset hx'
   have hkl:ks.length≤40:=Nat.le_trans (L2.vK _ _ hnd hkf) hf
   have hcl1:lT (S++[SO.dct (dK ks)]):=lT.push hS fun _=>rfl
   unfold fE
   refine pQ <| fA <| ot <| CU <| w_var (v:= .loc S.length) rfl ⟨_,_,nZ ks,rfl,bh _ _,?_,by unfold nZ;rw [List.length_map];omega,_,rfl,?_⟩
   ·unfold dK nZ
    rw[List.map_map,List.map_map];rfl
   rw[Du hG.so hnd hkf,DC,List.map_map]
   refine(qU (S:=S++[SO.dct (dK ks)]) (V3.d ∘ nI) (fun δ=>∃a5 a6,δ=fE (nY groups) (nI m) (some (.d (nI last))) (some (.loc S.length)) a4 a5 a6) (fun x=>CS (fr free x) (left groups x) (m - 1) none) (fun x v=>∃R,v= .d (bU (x ::R))∧CS (fr free x) (left groups x) (m - 1) (some R))
    ⟨_,_,rfl⟩ ?_).mono fun o S2 ⟨eS2,hq⟩=>?_
   ·rintro x hx δ ⟨b5,b6,rfl⟩
    have hxk:x∈ks:=by have:=(List.mem_filter.mp hx).2;simpa using this
    have hxl:=((hks x).mp hxk).2
    refine⟨fE (nY groups) (nI m) (some (.d (nI last))) (some (.loc S.length)) a4 (some (.d (nI x))) b6,rfl,?_⟩
    unfold ja
    refine aY <| bC (by unfold fE;simp only[List.length_cons,List.length_nil];omega) <| eK <| aI <| cF (d:=nY (left groups x)) (aM (ds:=[nY groups,nI x]) rfl (DN hgl hl)) <| aI <| cF (d:=nI (m - 1)) (az (a:=nI m) (b:= .int 1) rfl rfl ?_) <| cH <| z7 n (m - 1) (by omega) _ _ _ (N.left hxl) (Nat.le_trans (List.length_filter_le _ _) hf) (by unfold left;rw [List.length_map];exact Nat.le_trans (List.length_filter_le _ _) hl) hcl1 _ fun r hr=>⟨_,rfl,?_⟩
    ·show R.ok (D.int ((m:Int) - 1))=R.ok (D.int ((m - 1:Nat):Int))
     congr 2;omega
    cases r with
    | none=>
      refine kN <| lU (b:=false) rfl ?_
      rw[if_neg (by decide)]
      exact h_ ⟨rfl, .inl ⟨_,rfl,⟨_,_,rfl⟩,hr⟩⟩
    | some R=>
      refine kN <| lU (b:=true) rfl ?_
      rw[if_pos rfl]
      have hRl:R.length≤40:=Nat.le_trans hr.1.length_le (Nat.le_trans (List.length_filter_le _ _) hf)
      refine eA <| cF (d:=bU (x ::R)) (az (a:= .tup [nI x]) (b:=bU R) (gB rfl (by simp;omega)) rfl (zX (by rw[List.length_map];simp;omega))) ⟨rfl, .inr ⟨_,rfl,R,rfl,hr⟩⟩
   ·subst eS2
    have hmm:m - 1+1=m:=by omega
    rcases hq with⟨δ3,rfl,⟨b5,b6,rfl⟩,hN⟩ | ⟨ys,x,zs,v,eps,hys,rfl,R,rfl,hR⟩
    ·refine eA <| cF (d:= .bX) rfl ⟨_,rfl,?_⟩
     have:=N.J7 hN
     rw[hmm] at this
     exact fin none _ this
    ·have:=N.yes eps hys hR
     rw[hmm] at this
     exact⟨_,rfl,fin (some (x ::R)) _ this⟩
end
end K23
end
section
set_option maxRecDepth 100000
set_option maxHeartbeats 4000000
namespace K23
open PySem PySem.Spec PyProof.Rows L2 L3 MT
theorem uZ{T o:List Nat}:subB T o=true↔∀x∈o,x∈T:=by
 unfold subB
 rw[List.all_eq_true]
 exact⟨fun h x hx=>by have:=h x hx;simpa using this,fun h x hx=>by simpa using h x hx⟩
theorem tS{B:List Nat→Bool}{f:List (List Nat)}{T o:List Nat}(h:o∈f):o∈mE B f T:=by
 unfold mE
 split
 ·exact h
 ·split
  ·exact List.mem_append_left _ h
  ·exact h
theorem m5{B:List Nat→Bool}:∀(xs:List (List Nat)) {f:List (List Nat)} {o:List Nat},o∈f→o∈xs.foldl (mE B) f
 | [],_,_,h=>h
 | x ::xs,f,o,h=>by rw[List.foldl_cons];exact m5 xs (tS h)
theorem t9{B:List Nat→Bool}:∀(xs f:List (List Nat)) {T:List Nat},T∈xs→B T=true→∃o∈xs.foldl (mE B) f,∀x∈o,x∈T
 | x ::xs,f,T,h,hB=>by
   rw[List.foldl_cons]
   rcases List.mem_cons.mp h with rfl | h
   ·by_cases q:f.any (subB T)=true
    ·obtain⟨o,ho,hs⟩:=List.any_eq_true.mp q
     exact⟨o,m5 xs (tS ho),uZ.mp hs⟩
    ·refine⟨T,m5 xs ?_,fun x hx=>hx⟩
     unfold mE
     rw[if_neg q,if_pos hB]
     exact List.mem_append_right _ (List.mem_singleton.mpr rfl)
   ·exact t9 xs _ h hB
theorem uD{B:List Nat→Bool}:∀(xs f:List (List Nat)) {T:List Nat},T∈xs.foldl (mE B) f→T∈f∨∃ys zs,xs=ys++T ::zs∧B T=true∧(ys.foldl (mE B) f).any (subB T)=false
 | [],f,T,h=> .inl h
 | x ::xs,f,T,h=>by
   rw[List.foldl_cons] at h
   rcases uD xs _ h with q | ⟨ys,zs,e,hB,hn⟩
   ·unfold mE at q
    split at q
    ·exact .inl q
    ·rename_i hany
     split at q
     ·rename_i hBx
      rcases List.mem_append.mp q with z | z
      ·exact .inl z
      ·rw[List.mem_singleton.mp z]
       exact .inr ⟨[],xs,rfl,hBx,by cases hq:f.any (subB x) with | false=>exact hq | true=>exact absurd hq hany⟩
     ·exact .inl q
   ·exact .inr ⟨x ::ys,zs,by rw[e];rfl,hB,by rw[List.foldl_cons];exact hn⟩
theorem p7{free T:List Nat}{m:Nat}:T∈lA free m↔T.Sublist free∧T.length≤m:=by
 unfold lA
 rw[List.mem_flatMap]
 constructor
 ·rintro⟨s,hs,h⟩
  rw[List.mem_range] at hs
  exact⟨pM s free T h,by rw[(ij h).1];omega⟩
 ·rintro⟨h1,h2⟩
  exact⟨T.length,List.mem_range.mpr (by omega),xn h1⟩
theorem nF(free:List Nat):∀m,(lA free m).Pairwise (fun a b=>a.length≤b.length)
 | 0=>by show([[]]:List (List Nat)).Pairwise _;simp
 | m+1=>by
   rw[rn,List.pairwise_append]
   refine⟨nF free m,?_,fun a ha b hb=>?_⟩
   ·refine List.pairwise_iff_forall_sublist.mpr fun {a b} hab=>?_
    have ha:=hab.subset (List.mem_cons_self)
    have hb:=hab.subset (List.mem_cons_of_mem _ (List.mem_singleton.mpr rfl))
    rw[(ij ha).1,(ij hb).1];omega
   ·rw[(ij hb).1]
    have:=(p7.mp ha).2
    omega
theorem uL{B:List Nat→Bool}{free:List Nat}{m:Nat}{T:List Nat}(h:T∈n8 B (lA free m)):T.Sublist free∧T.length≤m∧B T=true∧∀R:List Nat,R.Sublist T→R.length < T.length→B R=false:=by
 rcases uD _ [] h with q | ⟨ys,zs,e,hB,hn⟩
 ·cases q
 have hT:T∈lA free m:=by rw[e];simp
 obtain⟨h1,h2⟩:=p7.mp hT
 refine⟨h1,h2,hB,fun R hR hl=>?_⟩
 cases hBR:B R with
 | false=>rfl
 | true=>
   have hRA:R∈lA free m:=p7.mpr ⟨hR.trans h1,by omega⟩
   have hso:=nF free m
   rw[e] at hRA hso
   have hRy:R∈ys:=by
    rcases List.mem_append.mp hRA with q | q
    ·exact q
    ·exfalso
     have h3:=(List.pairwise_append.mp hso).2.1
     rcases List.mem_cons.mp q with rfl | q
     ·omega
     ·have:=(List.pairwise_cons.mp h3).1 R q
      omega
   obtain⟨o,ho,hoR⟩:=t9 ys [] hRy hBR
   have:(ys.foldl (mE B) []).any (subB T)=true:=List.any_eq_true.mpr ⟨o,ho,uZ.mpr fun x hx=>hR.subset (hoR x hx)⟩
   rw[hn] at this;cases this
section
variable {c:Nat} {ins:List (Str × Nat)} {gs:List Gt} {os:List (Str × List Nat)} {safe:Bool} {S:aF} {m:Nat}
theorem Dn{p:Nat}(hsd:∀x∈os,∀p,(pt (Wd c ins gs [] []) x p).2=!(pt (Wd c ins gs [] []) x p).1):EM safe c ins gs os (nZ []) p=false:=by
 show(os.any fun x=>brk safe (pt (Wd c ins gs [] []) x p) (pt (Wd c ins gs [] []) x p))=false
 rw[List.any_eq_false]
 intro x hx
 have h:=hsd x hx p
 generalize pt (Wd c ins gs [] []) x p=A at h ⊢
 obtain⟨a,b⟩:=A
 have h:b=!a:=h
 subst h
 cases a <;> cases safe <;> decide
theorem FI(hsd:∀x∈os,∀p,(pt (Wd c ins gs [] []) x p).2=!(pt (Wd c ins gs [] []) x p).1):BT safe c ins gs os []=false:=by
 unfold BT
 rw[decide_eq_true (i0.mpr fun p _=>Dn hsd)];rfl
theorem Bi{free:List Nat}(hsd:∀x∈os,∀p,(pt (Wd c ins gs [] []) x p).2=!(pt (Wd c ins gs [] []) x p).1)(hs:free.Pairwise (· < ·))(hu:(i8 gs).Sublist free):Good free (nX safe c ins gs os m):=by
 refine⟨hs,fun G hG=>?_⟩
 obtain⟨h1,_,h3,_⟩:=uL hG
 refine⟨fun e=>?_,h1.trans hu⟩
 subst e
 rw[FI hsd] at h3;cases h3
theorem Cu(hg:gs.length≤40)(hm:m≤3):(nX safe c ins gs os m).length≤256000:=by
 have h1:=oI (BT safe c ins gs os) (lA (i8 gs) m) []
 have h2:=p6 (free:=i8 gs) (Nat.le_trans rW hg) m hm
 have h3:(m+1)*64000≤4*64000:=Nat.mul_le_mul_right _ (by omega)
 unfold nX n8
 simp only[List.length_nil] at h1
 omega
structure SU (free:List Nat) (F:List (List Nat)) (T0:List Nat):Prop where
 sub:T0.Sublist free
 hit:ix F T0=true
 min:∀T:List Nat,T.Sublist free→ix F T=true→T0.length≤T.length
 fst:gW free T0.length F=some T0
noncomputable def vE(nt mm lv gr:D)(mo pl:D):DE:=[some (.d nt),some (.d mm),some (.d lv),some (.d gr),some (.d mo),some (.d pl)]
theorem qM{nt mm lv:D}{free:List Nat}{F:List (List Nat)}(hG:Good free F)(hf:free.length≤40)(hl:F.length≤300000)(hS:lT S):∀(n k:Nat) (r:Option (List Nat)),free.length < n+k→CS free F k r→(∀T:List Nat,T.Sublist free→ix F T=true→k≤T.length)→
 W3 (jB (bP (b2 ID (ag 5) (eC .bX))) k7 n (vE nt mm lv (nY F) (nI k) (rD r)) S) fun o S1=>S1=S∧∃T0 k',o= .nx (vE nt mm lv (nY F) (nI k') (bU T0))∧SU free F T0
 | 0,k,r,hn,hr,hmin=>by
   exfalso
   have hall:ix F free=true:=dX.mpr fun G hGm=>by
    obtain⟨h1,h2⟩:=hG.g G hGm
    obtain⟨x,hx⟩:=List.exists_mem_of_ne_nil _ h1
    exact⟨x,hx,h2.subset hx⟩
   have:=hmin free (List.Sublist.refl _) hall
   omega
 | n+1,k,r,hn,hr,hmin=>by
   unfold jB
   cases r with
   | some T0=>
     refine W3.bind (lU (b:=false) rfl ?_)
     rw[if_neg (by decide)]
     obtain⟨h1,h2,h3,h4⟩:=hr
     have hk:k=T0.length:=by have:=hmin T0 h1 h2;omega
     exact W3.ok ⟨rfl,T0,k,rfl,h1,h2,fun T hT hh=>by rw[←hk];exact hmin T hT hh,by rw[←hk];exact h4 hmin⟩
   | none=>
     refine W3.bind (lU (b:=true) rfl ?_)
     rw[if_pos rfl]
     have hall:ix F free=true:=dX.mpr fun G hGm=>by
      obtain⟨h1,h2⟩:=hG.g G hGm
      obtain⟨x,hx⟩:=List.exists_mem_of_ne_nil _ h1
      exact⟨x,hx,h2.subset hx⟩
     have hkf:k < free.length:=hr free (List.Sublist.refl _) hall
     unfold k7
     refine W3.bind ?_
     refine aY <| bC (by unfold vE;simp only[List.length_cons,List.length_nil];omega) <| cF (d:=nI (k+1)) (az (a:=nI k) (b:= .int 1) rfl rfl rfl) ⟨_,rfl,?_⟩
     refine bC (by unfold vE;simp only[List.length_cons,List.length_nil,List.length_set];omega) <| eK <| aI <| cF (d:=nY F) rfl <| aI <| cF (d:=nI (k+1)) rfl <| cH <| z7 42 (k+1) (by omega) free F S hG (by omega) hl hS _ fun r' hr'=>?_
     show W3 (jB _ _ n (vE nt mm lv (nY F) (nI (k+1)) (rD r')) S) _
     exact qM hG hf hl hS n (k+1) r' (by omega) hr' fun T hT hh=>hr T hT hh
theorem yn{free:List Nat}(NO:kP ins gs os)(hc:ins.length=c)(hc1:c≤10)(ho:∀x∈os,1≤x.2.length∧x.2.length≤3)(hsd:∀x∈os,∀p,(pt (Wd c ins gs [] []) x p).2=!(pt (Wd c ins gs [] []) x p).1)(hg:gs.length≤40)(hm:m≤3)(hs:free.Pairwise (· < ·))(hG:Good free (nX safe c ins gs os m))(hf:free.length≤40)(hS:lT S){Q:V3→aF→Prop}
 (h:∀T0,SU free (nX safe c ins gs os m) T0→Q (.d (bU T0)) S):W3 (ky [.d (cg ins gs os), .d (nI m), .d (.str (m8 safe))] S) Q:=by
 have hz:sizeLine=16777216:=sizeLine_eq
 have hl:(nX safe c ins gs os m).length≤256000:=Cu (by omega) hm
 unfold ky
 refine kZ hS (vc rfl ?_)
 simp only[bE,jZ,List.map_cons,List.map_nil,List.length_cons,List.length_nil,List.replicate,List.cons_append,List.nil_append,Nat.reduceAdd,Nat.reduceSub]
 unfold qc
 refine aY <| bC (by simp only[List.length_cons,List.length_nil,List.length_set];omega) <| oG (fun j ds S2=>S2=S∧ds=((nX safe c ins gs os m).take j).map gD) (ot <| eK <| aI <| cF (d:=cg ins gs os) rfl <| aI <| cF (d:=nI m) rfl <| aI <| cF (d:= .str (m8 safe)) rfl <| cH <| oW NO hc hc1 ho (by omega) hm hS ⟨_,rfl,by rw[List.length_map,List.length_map];omega,⟨rfl,by simp⟩,?_,?_⟩)
 ·rintro j v ds S2 hv ⟨rfl,rfl⟩
  obtain⟨T,hT,rfl⟩:=NT.gS hv
  refine⟨[some (.d (bU T))],rfl,yh ?_⟩
  rw[if_pos rfl]
  refine cF (d:=gD T) (aM (ds:=[bU T]) rfl rfl) ⟨_,rfl,rfl,?_⟩
  rw[List.take_add_one,hT,List.map_append];rfl
 ·rintro ds S2 ⟨rfl,rfl⟩
  rw[List.length_map,List.length_map,List.take_length]
  generalize nX safe c ins gs os m=F at hG hl h
  refine⟨_,rfl,?_⟩
  simp only[List.set_cons_succ,List.set_cons_zero]
  refine aY <| bC (by simp only[List.length_cons,List.length_nil,List.length_set];omega) <| cF (d:=nI 0) rfl ⟨_,rfl,?_⟩
  simp only[List.set_cons_succ,List.set_cons_zero]
  refine aY <| bC (by simp only[List.length_cons,List.length_nil,List.length_set];omega) <| eK <| aI <| cF (d:=nY F) rfl <| aI <| cF (d:=nI 0) rfl <| cH <| z7 42 0 (by omega) free F _ hG (by omega) (by omega) hS _ fun r hr=>⟨_,rfl,?_⟩
  simp only[List.set_cons_succ,List.set_cons_zero]
  refine aY ?_
  unfold vX
  refine(qM (nt:=cg ins gs os) (mm:=nI m) (lv:= .str (m8 safe)) hG hf (by omega) hS 1000 0 r (by omega) hr fun T _ _=>by omega).mono fun o S3 ⟨eS,T0,k',eo,hSU⟩=>⟨_,eo,?_⟩
  subst eS
  unfold vE
  exact eA <| cF (d:=bU T0) rfl ⟨_,rfl,by unfold eQ;rfl,⟨[],by simp⟩,_,by unfold res;rfl,h T0 hSU⟩
end
end K23
end
section
set_option maxRecDepth 100000
set_option maxHeartbeats 400000
namespace K23
open PySem PySem.Spec PyProof.Rows L2 L3 MT
noncomputable def de:Nat→(Nat→Bool)→Bool
 | 0,_=>false
 | N+1,f=>de N f !=f N
theorem gM{f g:Nat→Bool}:∀{N:Nat},(∀z,z < N→f z=g z)→de N f=de N g
 | 0,_=>rfl
 | N+1,h=>by unfold de;rw [gM (N:=N) fun z hz=>h z (by omega),h N (by omega)]
theorem jg{f:Nat→Bool}:∀{N:Nat},(∀z,z < N→f z=false)→de N f=false
 | 0,_=>rfl
 | N+1,h=>by unfold de;rw [jg (N:=N) fun z hz=>h z (by omega),h N (by omega)];rfl
theorem qe{f:Nat→Bool}:∀{N x:Nat},x < N→de N (fun z=>(z==x) && f z)=f x
 | 0,x,h=>absurd h (by omega)
 | N+1,x,h=>by
   unfold de
   by_cases e:x=N
   ·subst e
    rw[jg fun z hz=>by rw[beq_eq_false_iff_ne.mpr (by omega)];rfl]
    show(false !=((x==x) && f x))=f x
    rw[beq_self_eq_true,Bool.true_and]
    cases f x <;> rfl
   ·rw[qe (N:=N) (by omega)]
    show(f x !=((N==x) && f N))=f x
    rw[beq_eq_false_iff_ne.mpr (Ne.symm e)]
    cases f x <;> rfl
theorem oM{f g:Nat→Bool}{a:Bool}{z0:Nat}:∀{N:Nat},z0 < N→(∀z,z < N→z≠z0→g z=f z)→g z0=(f z0 !=a)→de N g=(de N f !=a)
 | 0,h,_,_=>absurd h (by omega)
 | N+1,h,h1,h2=>by
   unfold de
   by_cases e:z0=N
   ·subst e
    rw[gM (N:=z0) fun z hz=>h1 z (by omega) (by omega),h2]
    cases de z0 f <;> cases f z0 <;> cases a <;> rfl
   ·rw[oM (N:=N) (by omega) (fun z hz hne=>h1 z (by omega) hne) h2,h1 N (by omega) (Ne.symm e)]
    cases de N f <;> cases f N <;> cases a <;> rfl
noncomputable def tL(F:List M)(z:Nat)(g:M):List M:=F.set z fun k=>cu F z k !=g k
theorem oq(F:List M)(z:Nat)(g:M):(tL F z g).length=F.length:=by unfold tL;rw [List.length_set]
theorem pj{F:List M}{z:Nat}(g:M)(h:z < F.length):cu (tL F z g) z=fun k=>cu F z k !=g k:=by
 unfold tL
 show(F.set z _).getD z _=_
 rw[List.getD_eq_getElem?_getD,List.getElem?_set_self h];rfl
theorem oP{F:List M}{z y:Nat}(g:M)(h:y≠z):cu (tL F z g) y=cu F y:=by
 unfold tL
 show(F.set z _).getD y _=F.getD y _
 rw[List.getD_eq_getElem?_getD,List.getD_eq_getElem?_getD,List.getElem?_set_ne (Ne.symm h)]
noncomputable def iH(n j:Nat)(F:List M)(ws:List Nat):List M:=ws.foldl (fun F w=>tL F w (cu F (n+j))) F
theorem nq(n j:Nat):∀(ws:List Nat) (F:List M),(iH n j F ws).length=F.length
 | [],_=>rfl
 | w ::ws,F=>(nq n j ws _).trans (oq _ _ _)
noncomputable def xr(d:Nat→Bool):List Nat→Bool
 | []=>false
 | w ::ws=>d w !=xr d ws
theorem nB{n j:Nat}:∀{ws:List Nat} {F:List M} {y:Nat},(∀w∈ws,w < n+j)→n+j≤y→cu (iH n j F ws) y=cu F y
 | [],_,_,_,_=>rfl
 | w ::ws,F,y,h,hy=>by
   show cu (iH n j (tL F w (cu F (n+j))) ws) y=_
   have:=h w List.mem_cons_self
   rw[nB (fun v hv=>h v (List.mem_cons_of_mem _ hv)) hy,oP _ (by omega)]
theorem rO{n j k:Nat}{d:Nat→Bool}:∀{ws:List Nat} {F:List M},(∀w∈ws,w < n+j)→n+j < F.length→de (n+j) (fun z=>cu (iH n j F ws) z k && d z)=(de (n+j) (fun z=>cu F z k && d z) !=(cu F (n+j) k && xr d ws))
 | [],F,_,_=>by
   show de _ _=(_ !=(_ && false))
   rw[Bool.and_false]
   show de (n+j) (fun z=>cu F z k && d z)=(de (n+j) (fun z=>cu F z k && d z) !=false)
   cases de (n+j) (fun z=>cu F z k && d z) <;> rfl
 | w ::ws,F,h,hl=>by
   have hw:=h w List.mem_cons_self
   show de (n+j) (fun z=>cu (iH n j (tL F w (cu F (n+j))) ws) z k && d z)=_
   rw[rO (fun v hv=>h v (List.mem_cons_of_mem _ hv)) (by rw[oq];exact hl),oP _ (by omega:n+j≠w)]
   rw[oM (f:=fun z=>cu F z k && d z) (a:=cu F (n+j) k && d w) hw (fun z hz hne=>by rw[oP _ hne]) (by
    rw[pj _ (by omega)]
    show((cu F w k !=cu F (n+j) k) && d w)=_
    cases cu F w k <;> cases cu F (n+j) k <;> cases d w <;> rfl)]
   show _=(_ !=(cu F (n+j) k && (d w !=xr d ws)))
   cases de (n+j) (fun z=>cu F z k && d z) <;> cases cu F (n+j) k <;> cases d w <;> cases xr d ws <;> rfl
noncomputable def fX(n:Nat)(gs:List Gt):Nat→List M→List M
 | 0,F=>F
 | m+1,F=>match gs[gs.length - 1 - m]? with | some g=>iH n (gs.length - 1 - m) (fX n gs m F) g.2.1 | none=>fX n gs m F
theorem i9(n:Nat)(gs:List Gt):∀m F,(fX n gs m F).length=F.length
 | 0,_=>rfl
 | m+1,F=>by
   unfold fX
   split
   ·rw[nq,i9 n gs m F]
   ·exact i9 n gs m F
section
variable {n:Nat} {gs:List Gt} {F:List M} {d:Nat→Bool} {t:Nat→Bool} {k:Nat}
theorem tZ(hF:F.length=n+gs.length)(hw:∀(i:Nat) (g:Gt),gs[i]? =some g→∀w∈g.2.1,w < n+i)(hd:∀(i:Nat) (g:Gt),gs[i]? =some g→d (n+i)=(xr d g.2.1 !=t i)) :
 ∀m,m≤gs.length→(de (n+(gs.length - m)) (fun z=>cu (fX n gs m F) z k && d z) !=de gs.length (fun i=>decide (gs.length - m≤i) && (cu (fX n gs m F) (n+i) k && t i)))=de (n+gs.length) (fun z=>cu F z k && d z)
 | 0,_=>by
   rw[Nat.sub_zero,jg (f:=fun i=>decide (gs.length≤i) && _) fun z hz=>by rw[decide_eq_false (by omega)];rfl]
   show(de _ _ !=false)=_
   show(de (n+gs.length) (fun z=>cu F z k && d z) !=false)=_
   cases de (n+gs.length) (fun z=>cu F z k && d z) <;> rfl
 | m+1,hm=>by
   have ih:=tZ hF hw hd m (by omega)
   rw[←ih]
   have hgi:gs[gs.length - 1 - m]? =some gs[gs.length - 1 - m]:=List.getElem?_eq_getElem (by omega)
   have hwi:=hw _ _ hgi
   have e1:n+(gs.length - m)=n+(gs.length - 1 - m)+1:=by omega
   have e2:n+(gs.length - (m+1))=n+(gs.length - 1 - m):=by omega
   have hb:fX n gs (m+1) F=iH n (gs.length - 1 - m) (fX n gs m F) gs[gs.length - 1 - m].2.1:=by conv=>lhs;unfold fX;rw [hgi]
   generalize hB:fX n gs m F=B at ih hb
   have hBl:B.length=n+gs.length:=by rw[←hB,i9,hF]
   rw[e1,e2,hb,rO hwi (by omega)]
   show _=((de (n+(gs.length - 1 - m)) (fun z=>cu B z k && d z) !=(cu B (n+(gs.length - 1 - m)) k && d (n+(gs.length - 1 - m)))) !=_)
   rw[hd _ _ hgi]
   have e3:de gs.length (fun i=>decide (gs.length - (m+1)≤i) && (cu (iH n (gs.length - 1 - m) B gs[gs.length - 1 - m].2.1) (n+i) k && t i))=(de gs.length (fun i=>decide (gs.length - m≤i) && (cu B (n+i) k && t i)) !=(cu B (n+(gs.length - 1 - m)) k && t (gs.length - 1 - m))):=by
    refine oM (z0:=gs.length - 1 - m) (by omega) (fun z hz hne=>?_) ?_
    ·by_cases q:gs.length - m≤z
     ·rw[decide_eq_true q,decide_eq_true (by omega),nB hwi (by omega)]
     ·rw[decide_eq_false q,decide_eq_false (by omega)];rfl
    ·rw[decide_eq_true (by omega),decide_eq_false (by omega),nB hwi (Nat.le_refl _)]
     show(true && _)=((false && _) !=_)
     rw[Bool.true_and,Bool.false_and]
     cases(cu B (n+(gs.length - 1 - m)) k && t (gs.length - 1 - m)) <;> rfl
   rw[e3]
   cases de (n+(gs.length - 1 - m)) (fun z=>cu B z k && d z) <;> cases cu B (n+(gs.length - 1 - m)) k <;> cases xr d gs[gs.length - 1 - m].2.1 <;> cases t (gs.length - 1 - m) <;> cases de gs.length (fun i=>decide (gs.length - m≤i) && (cu B (n+i) k && t i)) <;> rfl
end
end K23
end
section
set_option maxRecDepth 100000
set_option maxHeartbeats 400000
namespace K23
open PySem PySem.Spec PyProof.Rows L2 L3 MT
section
variable {c m:Nat} {ins:List (Str × Nat)} {gs:List Gt} {os:List (Str × List Nat)} {safe:Bool}
structure Pl (c:Nat) (ins:List (Str × Nat)) (gs:List Gt) (os:List (Str × List Nat)):Prop where
 no:kP ins gs os
 hc:ins.length=c
 w1:∀x∈ins,x.2=1
 o1:∀x∈os,∃w,x.2=[w]
theorem Pl.lS(P:Pl c ins gs os):MT.lS ins=ins.length:=by rw[wq P.w1,Nat.one_mul]
theorem Pl.g(P:Pl c ins gs os)(i:Nat)(g:Gt)(h:gs[i]? =some g):sg (ins.length+i) g:=by
 have:=P.no.g i g h
 rw[P.lS] at this
 exact this
noncomputable def wv(c:Nat)(ins:List (Str × Nat))(gs:List Gt)(T:List Int)(w p:Nat):Bool:=cu (Wd c ins gs T []) w p
theorem BH{x:Str × List Nat}{w p:Nat}{T:List Int}(hw:x.2=[w]):pt (Wd c ins gs T []) x p=(!(wv c ins gs T w p),wv c ins gs T w p):=by
 unfold pt tell
 rw[hw]
 rfl
theorem lE{α:Type}{f g:α→Bool}:∀{xs:List α},(∀x∈xs,f x=g x)→xs.any f=xs.any g
 | [],_=>rfl
 | x ::xs,h=>by rw[List.any_cons,List.any_cons,h x List.mem_cons_self,lE fun y hy=>h y (List.mem_cons_of_mem _ hy)]
theorem Hr(P:Pl c ins gs os){T:List Int}{p:Nat}:EM safe c ins gs os T p=os.any fun x=>wv c ins gs T (x.2.getD 0 0) p !=wv c ins gs [] (x.2.getD 0 0) p:=by
 unfold EM
 refine lE fun x hx=>?_
 obtain⟨w,hw⟩:=P.o1 x hx
 rw[BH hw,BH hw,hw]
 show brk safe _ _=(wv c ins gs T w p !=wv c ins gs [] w p)
 cases wv c ins gs [] w p <;> cases wv c ins gs T w p <;> cases safe <;> rfl
noncomputable def dR(N:Nat)(os:List (Str × List Nat)):Nat→List M
 | 0=>List.replicate N fun _=>false
 | k+1=>match os[k]? with | some x=>tL (dR N os k) (x.2.getD 0 0) (fun i=>i==k) | none=>dR N os k
theorem fL(N:Nat)(os:List (Str × List Nat)):∀k,(dR N os k).length=N
 | 0=>by unfold dR;rw [List.length_replicate]
 | k+1=>by
   unfold dR
   split
   ·rw[oq,fL N os k]
   ·exact fL N os k
theorem xZ{N:Nat}(h:∀x∈os,x.2.getD 0 0 < N):∀k,k≤os.length→∀z,z < N→∀i,cu (dR N os k) z i=(decide (i < k) && (match os[i]? with | some x=>x.2.getD 0 0==z | none=>false))
 | 0,_,z,hz,i=>by
   unfold dR
   show((List.replicate N (fun _=>false):List M).getD z (fun _=>false)) i=_
   rw[List.getD_eq_getElem?_getD,List.getElem?_replicate,if_pos hz];rfl
 | k+1,hk,z,hz,i=>by
   have hk2:os[k]? =some os[k]:=List.getElem?_eq_getElem (by omega)
   have ih:=xZ h k (by omega) z hz i
   conv=>lhs;unfold dR
   rw[hk2]
   show cu (tL (dR N os k) (os[k].2.getD 0 0) (fun i=>i==k)) z i=_
   have hwl:=h os[k] (List.getElem_mem _)
   by_cases e:z=os[k].2.getD 0 0
   ·rw[e,pj _ (by rw[fL];exact hwl)]
    show(cu (dR N os k) (os[k].2.getD 0 0) i !=(i==k))=_
    rw[←e,ih]
    by_cases q:i=k
    ·subst q
     rw[decide_eq_false (by omega),decide_eq_true (by omega),beq_self_eq_true,hk2,e]
     show(false !=true)=(true && (_==_))
     rw[beq_self_eq_true];rfl
    ·rw[beq_eq_false_iff_ne.mpr q,show decide (i < k+1)=decide (i < k) by rw[Bool.eq_iff_iff,decide_eq_true_iff,decide_eq_true_iff];omega]
     cases(decide (i < k) && (match os[i]? with | some x=>x.2.getD 0 0==z | none=>false)) <;> rfl
   ·rw[oP _ e,ih]
    by_cases q:i=k
    ·subst q
     rw[decide_eq_false (by omega),decide_eq_true (by omega),hk2]
     show(false && _)=(true && (os[i].2.getD 0 0==z))
     rw[beq_eq_false_iff_ne.mpr (Ne.symm e)];rfl
    ·rw[show decide (i < k+1)=decide (i < k) by rw[Bool.eq_iff_iff,decide_eq_true_iff,decide_eq_true_iff];omega]
noncomputable def Ea(gs:List Gt):Prop:=∀g∈gs,g.1=0∨g.1=3
noncomputable def pI(ins:List (Str × Nat))(gs:List Gt)(os:List (Str × List Nat)):List M:=fX ins.length gs gs.length (dR (ins.length+gs.length) os os.length)
noncomputable def fin(ins:List (Str × Nat))(gs:List Gt)(os:List (Str × List Nat))(i:Nat):M:=cu (pI ins gs os) (ins.length+i)
theorem Pl.ow(P:Pl c ins gs os):∀x∈os,x.2.getD 0 0 < ins.length+gs.length:=fun x hx=>by
 obtain⟨w,hw⟩:=P.o1 x hx
 have:=(P.no.o x hx).2 w (by rw[hw];simp)
 rw[P.lS] at this
 rw[hw];exact this
theorem yj(P:Pl c ins gs os)(L:Ea gs){T:List Int}{p k:Nat}{x:Str × List Nat}(hx:os[k]? =some x):(wv c ins gs T (x.2.getD 0 0) p !=wv c ins gs [] (x.2.getD 0 0) p)=de gs.length (fun i=>fin ins gs os i k && T.contains (i:Int)):=by
 have hb:(qw c).length=ins.length:=by rw[tW,P.hc]
 have hk:k < os.length:=(List.getElem?_eq_some_iff.mp hx).1
 have hd0:∀z,z < ins.length→(wv c ins gs T z p !=wv c ins gs [] z p)=false:=fun z hz=>by
  unfold wv
  rw[D3 hb (by rw[P.lS];exact hz),D3 hb (by rw[P.lS];exact hz)]
  cases cu (ft ins (qw c) [] ins.length) z p <;> rfl
 have hdg:∀(i:Nat) (g:Gt),gs[i]? =some g→(wv c ins gs T (ins.length+i) p !=wv c ins gs [] (ins.length+i) p)=(xr (fun z=>wv c ins gs T z p !=wv c ins gs [] z p) g.2.1 !=T.contains (i:Int)):=fun i g hg=>by
  have h1:=xF (p:=p) (T:=T) (bad:=[]) hb hg (by rw[P.lS];exact P.g i g hg)
  have h0:=xF (p:=p) (T:=[]) (bad:=[]) hb hg (by rw[P.lS];exact P.g i g hg)
  rw[P.lS] at h1 h0
  have hl:=(P.g i g hg).2.1
  unfold wv
  rw[h1,h0]
  obtain⟨kd,ws,s⟩:=g
  rcases L _ (List.mem_of_getElem? hg) with e | e
  ·have e:kd=0:=e
   subst e
   obtain⟨a,rfl⟩:=List.length_eq_one_iff.mp hl
   show(((!(cu (Wd c ins gs T []) a p)) !=T.contains (i:Int)) !=((!(cu (Wd c ins gs [] []) a p)) !=false))=((((cu (Wd c ins gs T []) a p) !=(cu (Wd c ins gs [] []) a p)) !=false) !=T.contains (i:Int))
   cases cu (Wd c ins gs T []) a p <;> cases cu (Wd c ins gs [] []) a p <;> cases T.contains (i:Int) <;> rfl
  ·have e:kd=3:=e
   subst e
   match ws,hl with
   | [a,b],_=>
     show(((cu (Wd c ins gs T []) a p !=cu (Wd c ins gs T []) b p) !=T.contains (i:Int)) !=((cu (Wd c ins gs [] []) a p !=cu (Wd c ins gs [] []) b p) !=false))=((((cu (Wd c ins gs T []) a p) !=(cu (Wd c ins gs [] []) a p)) !=(((cu (Wd c ins gs T []) b p) !=(cu (Wd c ins gs [] []) b p)) !=false)) !=T.contains (i:Int))
     cases cu (Wd c ins gs T []) a p <;> cases cu (Wd c ins gs T []) b p <;> cases cu (Wd c ins gs [] []) a p <;> cases cu (Wd c ins gs [] []) b p <;> cases T.contains (i:Int) <;> rfl
 have key:=tZ (n:=ins.length) (gs:=gs) (F:=dR (ins.length+gs.length) os os.length) (d:=fun z=>wv c ins gs T z p !=wv c ins gs [] z p) (t:=fun i=>T.contains (i:Int)) (k:=k) (fL _ _ _) (fun i g hg w hw=>(P.g i g hg).2.2 w hw) hdg gs.length (Nat.le_refl _)
 rw[Nat.sub_self,Nat.add_zero,jg fun z hz=>by rw[hd0 z hz,Bool.and_false]] at key
 have hR:de (ins.length+gs.length) (fun z=>cu (dR (ins.length+gs.length) os os.length) z k && (wv c ins gs T z p !=wv c ins gs [] z p))=(wv c ins gs T (x.2.getD 0 0) p !=wv c ins gs [] (x.2.getD 0 0) p):=by
  rw[←qe (f:=fun z=>wv c ins gs T z p !=wv c ins gs [] z p) (P.ow x (List.mem_of_getElem? hx))]
  refine gM fun z hz=>?_
  rw[xZ P.ow _ (Nat.le_refl _) z hz,decide_eq_true hk,hx]
  show((true && (x.2.getD 0 0==z)) && _)=((z==x.2.getD 0 0) && _)
  rw[Bool.true_and,show(x.2.getD 0 0==z)=(z==x.2.getD 0 0) by rw[Bool.eq_iff_iff,beq_iff_eq,beq_iff_eq];exact⟨Eq.symm,Eq.symm⟩]
 rw[hR] at key
 rw[←key]
 show(false !=de _ _)=_
 have:de gs.length (fun i=>decide (0≤i) && (cu (fX ins.length gs gs.length (dR (ins.length+gs.length) os os.length)) (ins.length+i) k && T.contains (i:Int)))=de gs.length (fun i=>fin ins gs os i k && T.contains (i:Int)):=gM fun i _=>by rw[decide_eq_true (by omega),Bool.true_and];rfl
 rw[this]
 cases de gs.length (fun i=>fin ins gs os i k && T.contains (i:Int)) <;> rfl
noncomputable def DW(K:Nat)(F:List M):Prop:=∀z k,K≤k→cu F z k=false
theorem DW.ad{K:Nat}{F:List M}(h:DW K F){z:Nat}{g:M}(hg:∀k,K≤k→g k=false):DW K (tL F z g):=fun y k hk=>by
 by_cases e:y=z
 ·subst e
  by_cases hl:y < F.length
  ·rw[pj _ hl]
   show(cu F y k !=g k)=false
   rw[h y k hk,hg k hk];rfl
  ·show(tL F y g).getD y _ k=false
   rw[List.getD_eq_getElem?_getD,List.getElem?_eq_none (by rw[oq];omega)];rfl
 ·rw[oP _ e];exact h y k hk
theorem oJ(N:Nat):∀k,DW os.length (dR N os k)
 | 0=>fun z k _=>by
   unfold dR
   show((List.replicate N (fun _=>false):List M).getD z (fun _=>false)) k=false
   rw[List.getD_eq_getElem?_getD,List.getElem?_replicate]
   split <;> rfl
 | k+1=>by
   unfold dR
   split
   ·rename_i x hx
    have:=(List.getElem?_eq_some_iff.mp hx).1
    exact(oJ N k).ad fun i hi=>beq_eq_false_iff_ne.mpr (by omega)
   ·exact oJ N k
theorem uh{K n j:Nat}:∀{ws:List Nat} {F:List M},DW K F→DW K (iH n j F ws)
 | [],_,h=>h
 | w ::ws,F,h=>uh (ws:=ws) (h.ad fun k hk=>h _ k hk)
theorem pd{K n:Nat}{F:List M}(h:DW K F):∀m,DW K (fX n gs m F)
 | 0=>h
 | m+1=>by
   unfold fX
   split
   ·exact uh (pd h m)
   ·exact pd h m
theorem CQ{i k:Nat}(h:os.length≤k):fin ins gs os i k=false:=pd (oJ _ _) _ _ _ h
noncomputable def nz(ins:List (Str × Nat))(gs:List Gt)(os:List (Str × List Nat))(i:Nat):Bool:=(List.range os.length).any (fin ins gs os i)
theorem Ed(P:Pl c ins gs os)(L:Ea gs){T:List Int}{p:Nat}:EM safe c ins gs os T p=(List.range os.length).any fun k=>de gs.length fun i=>fin ins gs os i k && T.contains (i:Int):=by
 rw[Hr P,Bool.eq_iff_iff,List.any_eq_true,List.any_eq_true]
 constructor
 ·rintro⟨x,hx,h⟩
  obtain⟨k,hk⟩:=List.getElem?_of_mem hx
  exact⟨k,List.mem_range.mpr (List.getElem?_eq_some_iff.mp hk).1,by rw[←yj (p:=p) P L hk];exact h⟩
 ·rintro⟨k,hk,h⟩
  have hk:=List.mem_range.mp hk
  have hok:os[k]? =some os[k]:=List.getElem?_eq_getElem hk
  exact⟨os[k],List.getElem_mem _,by rw[yj (p:=p) P L hok];exact h⟩
theorem Ei(P:Pl c ins gs os)(L:Ea gs){T:List Nat}:BT safe c ins gs os T=(List.range os.length).any fun k=>de gs.length fun i=>fin ins gs os i k && (nZ T).contains (i:Int):=by
 unfold BT
 cases q:(List.range os.length).any fun k=>de gs.length fun i=>fin ins gs os i k && (nZ T).contains (i:Int) with
 | false=>rw [decide_eq_true (i0.mpr fun p _=>by rw[Ed P L];exact q)];rfl
 | true=>
   rw[decide_eq_false fun h=>?_]
   ·rfl
   ·have h0:=i0.mp h 0 (Nat.two_pow_pos c)
    rw[Ed P L,q] at h0
    cases h0
theorem FV(P:Pl c ins gs os)(L:Ea gs){x:Nat}(hx:x < gs.length):BT safe c ins gs os [x]=nz ins gs os x:=by
 rw[Ei P L]
 unfold nz
 refine lE fun k _=>?_
 rw[←qe (f:=fun i=>fin ins gs os i k) hx]
 refine gM fun i _=>?_
 rw[r_]
 show(fin ins gs os i k && [x].contains i)=((i==x) && fin ins gs os i k)
 rw[Bool.and_comm,List.contains_cons,List.contains_nil,Bool.or_false]
theorem xV(P:Pl c ins gs os)(L:Ea gs){T:List Nat}(h:∀x∈T,nz ins gs os x=false):BT safe c ins gs os T=false:=by
 rw[Ei P L,List.any_eq_false]
 intro k hk
 rw[jg fun i _=>?_]
 ·decide
 rw[r_]
 by_cases q:T.contains i=true
 ·have:=h i (List.contains_iff_mem.mp q)
  unfold nz at this
  rw[List.any_eq_false] at this
  have:=this k hk
  rw[Bool.eq_false_iff.mpr this];rfl
 ·rw[Bool.eq_false_iff.mpr q,Bool.and_false]
noncomputable def kM(ins:List (Str × Nat))(gs:List Gt)(os:List (Str × List Nat)):List Nat:=(i8 gs).filter (nz ins gs os)
theorem mY{B:List Nat→Bool}:∀(xs:List Nat) (f:List Nat),(f++xs).Nodup→(xs.map fun x=>[x]).foldl (mE B) (f.map fun x=>[x])=(f++xs.filter fun x=>B [x]).map fun x=>[x]
 | [],f,_=>by simp
 | x ::xs,f,hn=>by
   have hxf:x ∉ f:=fun h=>by
    rw[List.nodup_append] at hn
    exact hn.2.2 x h x List.mem_cons_self rfl
   have hany:(f.map fun x=>[x]).any (subB [x])=false:=by
    rw[List.any_map,List.any_eq_false]
    intro y hy
    show ¬([y].all fun z=>[x].contains z)=true
    have hyx:y≠x:=fun e=>hxf (e▸hy)
    simp [hyx]
   rw[List.map_cons,List.foldl_cons]
   have hs:mE B (f.map fun x=>[x]) [x]=if B [x] then(f++[x]).map fun x=>[x] else f.map fun x=>[x]:=by
    unfold mE
    rw[hany,if_neg (by decide),List.map_append];rfl
   rw[hs,List.filter_cons]
   cases B [x] with
   | true=>
     rw[if_pos rfl,if_pos rfl,mY xs (f++[x]) (by rw[List.append_assoc];exact hn),List.append_assoc];rfl
   | false=>
     rw[if_neg (by decide),if_neg (by decide)]
     exact mY xs f (by
      rw[List.nodup_append] at hn ⊢
      exact⟨hn.1,(List.nodup_cons.mp hn.2.1).2,fun a ha b hb=>hn.2.2 a ha b (List.mem_cons_of_mem _ hb)⟩)
theorem q_{B:List Nat→Bool}{f:List (List Nat)}:∀(xs:List (List Nat)),(∀T∈xs,f.any (subB T)=true∨B T=false)→xs.foldl (mE B) f=f
 | [],_=>rfl
 | T ::xs,h=>by
   rw[List.foldl_cons]
   have:mE B f T=f:=by
    unfold mE
    rcases h T List.mem_cons_self with q | q
    ·rw[if_pos q]
    ·split
     ·rfl
     ·rw[q];rfl
   rw[this]
   exact q_ xs fun U hU=>h U (List.mem_cons_of_mem _ hU)
theorem B8(P:Pl c ins gs os)(L:Ea gs)(hm:1≤m):nX safe c ins gs os m=(kM ins gs os).map fun x=>[x]:=by
 obtain⟨m,rfl⟩:∃m',m=m'+1:=⟨m - 1,by omega⟩
 unfold nX n8
 have hall:lA (i8 gs) (m+1)=[[]]++((i8 gs).map fun x=>[x])++((List.range m).flatMap fun s=>gH (i8 gs) (s+2)):=by
  unfold lA
  rw[List.range_succ_eq_map,List.flatMap_cons,List.range_succ_eq_map,List.map_cons,List.flatMap_cons,List.map_map,List.flatMap_map,←DK,←List.append_assoc]
  rfl
 rw[hall,List.foldl_append,List.foldl_append]
 have h0:([[]]:List (List Nat)).foldl (mE (BT safe c ins gs os)) []=[]:=by
  show mE _ [] []=[]
  unfold mE
  rw[xV P L (by simp)]
  rfl
 rw[h0]
 have h1:=mY (B:=BT safe c ins gs os) (i8 gs) [] (by
  show(i8 gs).Nodup
  exact(jr gs).imp fun h=>Nat.ne_of_lt h)
 rw[List.map_nil,List.nil_append] at h1
 have h2:((i8 gs).filter fun x=>BT safe c ins gs os [x])=kM ins gs os:=by
  unfold kM
  exact List.filter_congr fun x hx=>FV P L (Gx hx)
 rw[h2] at h1
 rw[h1]
 refine q_ _ fun T hT=>?_
 obtain⟨s,_,hT⟩:=List.mem_flatMap.mp hT
 obtain⟨_,hTu⟩:=ij hT
 by_cases q:∃x∈T,nz ins gs os x=true
 ·obtain⟨x,hx,hn⟩:=q
  refine .inl (List.any_eq_true.mpr ⟨[x],List.mem_map.mpr ⟨x,List.mem_filter.mpr ⟨hTu x hx,hn⟩,rfl⟩,?_⟩)
  unfold subB
  simp [hx]
 ·exact .inr (xV P L fun x hx=>Bool.eq_false_iff.mpr fun h=>q ⟨x,hx,h⟩)
theorem k8:∀{ys xs:List Nat},xs.Pairwise (· < ·)→ys.Pairwise (· < ·)→(∀x∈xs,x∈ys)→xs.Sublist ys
 | [],xs,_,_,h=>by
   cases xs with
   | nil=>exact List.Sublist.refl _
   | cons x xs=>exact absurd (h x List.mem_cons_self) (by simp)
 | y ::ys,[],_,_,_=>List.nil_sublist _
 | y ::ys,x ::xs,hx,hy,h=>by
   have hx':=List.pairwise_cons.mp hx
   have hy':=List.pairwise_cons.mp hy
   rcases List.mem_cons.mp (h x List.mem_cons_self) with e | e
   ·subst e
    refine List.Sublist.cons_cons x (k8 hx'.2 hy'.2 fun z hz=>?_)
    rcases List.mem_cons.mp (h z (List.mem_cons_of_mem _ hz)) with q | q
    ·have:=hx'.1 z hz;omega
    ·exact q
   ·refine List.Sublist.cons y (k8 hx hy'.2 fun z hz=>?_)
    rcases List.mem_cons.mp (h z hz) with q | q
    ·have h1:=hy'.1 x e
     rcases List.mem_cons.mp hz with r | r
     ·omega
     ·have:=hx'.1 z r;omega
    ·exact q
theorem EJ{T0:List Nat}(h:SU (i8 gs) ((kM ins gs os).map fun x=>[x]) T0):T0=kM ins gs os:=by
 have hso:=jr gs
 have hd:(kM ins gs os).Sublist (i8 gs):=List.filter_sublist
 have hin:∀x∈kM ins gs os,x∈T0:=fun x hx=>by
  obtain⟨y,hy,hyT⟩:=dX.mp h.hit [x] (List.mem_map.mpr ⟨x,hx,rfl⟩)
  rw[List.mem_singleton] at hy
  exact hy▸hyT
 have hs:=k8 (hso.sublist hd) (hso.sublist h.sub) hin
 have hl:=h.min (kM ins gs os) hd (dX.mpr fun G hG=>by
  obtain⟨x,hx,rfl⟩:=List.mem_map.mp hG
  exact⟨x,by simp,hx⟩)
 exact(hs.eq_of_length (Nat.le_antisymm hs.length_le hl)).symm
end
end K23
end
section
set_option maxRecDepth 100000
set_option maxHeartbeats 400000
namespace K23
open PySem PySem.Spec PyProof.Rows L2 L3 MT
theorem Gr{lo:Int}{m i:Nat}{v:V3}(h:((o8 lo m).map V3.d)[i]? =some v):i < m∧v= .d (.int (lo - i)):=by
 rw[List.getElem?_map,o8,List.getElem?_map] at h
 cases q:(List.range m)[i]? with
 | none=>rw [q] at h;cases h
 | some j=>
   rw[q] at h;cases h
   obtain⟨q1,q2⟩:=List.getElem?_eq_some_iff.mp q
   rw[List.getElem_range] at q2
   rw[List.length_range] at q1
   subst q2
   exact⟨q1,rfl⟩
theorem Di{k:Nat}(h:k < 6):CZ (.int 1) (nI k)= .ok (mI 6 fun i=>i==k):=by
 have e:∀k,k < 6→jf 6 (fun i=>i==k)=2 ^ k:=by decide
 unfold CZ tJ nI mI
 show R.bt (decide ((0:Int)≤k∧(k:Int) < 1000∧ -1000 < (1:Int)∧(1:Int) < 1000)) (.ok (D.int (1*2 ^ ((k:Int)).toNat)))=_
 rw[bQ _ ⟨by omega,by omega,by omega,by omega⟩,Int.toNat_natCast,Int.one_mul,e k h]
 congr 2
theorem mk_zero:mI 6 (fun _=>false)= .int 0:=rfl
section
variable {c:Nat} {ins:List (Str × Nat)} {gs:List Gt} {os:List (Str × List Nat)} {S:aF}
noncomputable def uE(ins:List (Str × Nat))(gs:List Gt)(os:List (Str × List Nat))(n:Nat)(a5 a6 a7 a8 a9:Option V3):DE:=[some (.d (cg ins gs os)),some (.d (.lst (ins.map MT.inD))),some (.d (.lst (gs.map eW))),some (.d (.lst (os.map wx))),some (.loc n),a5,a6,a7,a8,a9]
noncomputable def mS(S:aF)(F:List M):aF:=S++[SO.lst (F.map (mI 6))]
theorem mL{F:List M}:(mS S F)[S.length]? =some (.lst (F.map (mI 6))):=bh _ _
theorem A5{F:List M}{z:Nat}{g:M}(h:z < F.length):(mS S F).set S.length (.lst ((F.map (mI 6)).set z (mI 6 fun k=>cu F z k !=g k)))=mS S (tL F z g):=by
 unfold mS tL
 rw[cG,List.map_set]
theorem zJ{F:List M}{k w:Nat}{x:Str × List Nat}(hk:k < 6)(hw:x.2=[w])(hl:w < F.length){a8 a9:Option V3}{QO:Ou→aF→Prop}(h:QO (.nx (uE ins gs os S.length (some (.d (nI k))) (some (.d (.str x.1))) (some (.d (.tup (x.2.map nI)))) a8 a9)) (mS S (tL F w fun i=>i==k))) :
 W3 (gd (uE ins gs os S.length (some (.d (nI k))) (some (.d (.str x.1))) (some (.d (.tup (x.2.map nI)))) a8 a9) (mS S F)) QO:=by
 unfold gd
 have v7:∀{T:aF},ag 7 (cT T (uE ins gs os S.length (some (.d (nI k))) (some (.d (.str x.1))) (some (.d (.tup (x.2.map nI)))) a8 a9))= .ok (.tup [nI w]):=jj (v:= .d (.tup [nI w])) (by unfold uE;rw [hw];rfl) (by unfold res;rfl)
 have hix:∀{T:aF},e2 cR (ag 7) (eC (.int 0)) (cT T (uE ins gs os S.length (some (.d (nI k))) (some (.d (.str x.1))) (some (.d (.tup (x.2.map nI)))) a8 a9))= .ok (nI w):=az (a:= .tup [nI w]) (b:= .int 0) v7 rfl rfl
 refine xI <| BQ (d:=mI 6 fun i=>cu F w i !=(i==k)) (az (a:=mI 6 (cu F w)) (b:=mI 6 fun i=>i==k) (az (a:= .lst (F.map (mI 6))) (b:=nI w) (jj (v:= .loc S.length) rfl (jy mL)) hix (se hl)) (az (a:= .int 1) (b:=nI k) rfl (jj (v:= .d (nI k)) rfl (by unfold res;rfl)) (Di hk)) (qQ _ _ _)) rfl <| w_var (v:= .loc S.length) rfl <| cF (d:=nI w) (by rw[hw];rfl) ⟨_,_,_,_,w,rfl,rfl,rfl,mL,NT.si (by rw[List.length_map];exact hl),?_⟩
 rw[A5 hl]
 exact h
theorem y_{F:List M}{j w:Nat}(hl:w < F.length)(hj:ins.length+j < F.length){a5 a6 a7:Option V3}{QO:Ou→aF→Prop}(h:QO (.nx (uE ins gs os S.length a5 a6 a7 (some (.d (nI j))) (some (.d (nI w))))) (mS S (tL F w (cu F (ins.length+j))))) :
 W3 (gf (uE ins gs os S.length a5 a6 a7 (some (.d (nI j))) (some (.d (nI w)))) (mS S F)) QO:=by
 unfold gf
 refine xI <| BQ (d:=mI 6 fun i=>cu F w i !=cu F (ins.length+j) i) (az (a:=mI 6 (cu F w)) (b:=mI 6 (cu F (ins.length+j))) (az (a:= .lst (F.map (mI 6))) (b:=nI w) (jj (v:= .loc S.length) rfl (jy mL)) (jj (v:= .d (nI w)) rfl (by unfold res;rfl)) (se hl)) (az (a:= .lst (F.map (mI 6))) (b:=nI (ins.length+j)) (jj (v:= .loc S.length) rfl (jy mL)) (az (a:=nI ins.length) (b:=nI j) (aM (ds:=[.lst (ins.map MT.inD)]) (a_ (jj (v:= .d (.lst (ins.map MT.inD))) rfl (by unfold res;rfl)) rfl) (by rw[lj,List.length_map];rfl)) (jj (v:= .d (nI j)) rfl (by unfold res;rfl)) rfl) (se hj)) (qQ _ _ _)) rfl <| w_var (v:= .loc S.length) rfl <| cF (d:=nI w) rfl ⟨_,_,_,_,w,rfl,rfl,rfl,mL,NT.si (by rw[List.length_map];exact hl),?_⟩
 rw[A5 hl]
 exact h
theorem yP{F:List M}{j:Nat}{g:Gt}(hF:F.length=ins.length+gs.length)(hg:gs[j]? =some g)(hok:sg (ins.length+j) g){a5 a6 a7 a9:Option V3} :
 W3 (gn (uE ins gs os S.length a5 a6 a7 (some (.d (nI j))) a9) (mS S F)) fun o S1=>∃b9,o= .nx (uE ins gs os S.length a5 a6 a7 (some (.d (nI j))) b9)∧S1=mS S (iH ins.length j F g.2.1):=by
 have hjl:=(List.getElem?_eq_some_iff.mp hg).1
 unfold gn
 refine fA <| lu (ds:=g.2.1.map nI) (vL (az (a:=eW g) (b:= .int 1) (az (a:= .lst (gs.map eW)) (b:=nI j) rfl rfl (NT.r6 (by rw[List.getElem?_map,hg];rfl))) rfl rfl)) ?_
 refine(bH (fun i δ S2=>∃b9,δ=uE ins gs os S.length a5 a6 a7 (some (.d (nI j))) b9∧S2=mS S (iH ins.length j F (g.2.1.take i)))
  ⟨a9,rfl,rfl⟩ ?_).mono fun o S2 ⟨δ2,e2',b9,hδ,hS2⟩=>by
    subst hδ
    rw[List.length_map,List.length_map,List.take_length] at hS2
    exact⟨b9,e2',hS2⟩
 rintro i v δ S2 hv ⟨b9,rfl,rfl⟩
 obtain⟨w,hw,rfl⟩:=NT.gS hv
 have hwl:=hok.2.2 w (List.mem_of_getElem? hw)
 have hlen:(iH ins.length j F (g.2.1.take i)).length=ins.length+gs.length:=by rw[nq,hF]
 refine⟨uE ins gs os S.length a5 a6 a7 (some (.d (nI j))) (some (.d (nI w))),rfl,?_⟩
 refine y_ (by omega) (by omega) ⟨_,rfl,_,rfl,?_⟩
 rw[List.take_add_one,hw]
 show _=mS S (iH ins.length j F (g.2.1.take i++[w]))
 unfold iH
 rw[List.foldl_append]
 rfl
theorem wy(P:Pl c ins gs os)(ho6:os.length≤6)(hS:lT S){Q:V3→aF→Prop}(h:Q (.d (.lst ((List.range gs.length).map fun i=>mI 6 (fin ins gs os i)))) S):W3 (fg [.d (cg ins gs os)] S) Q:=by
 have hz:sizeLine=16777216:=sizeLine_eq
 have hi:=P.no.hi
 have hgl:=P.no.hg
 unfold fg
 refine D8 (vc rfl ?_)
 simp only[bE,fS,List.map_cons,List.map_nil,List.length_cons,List.length_nil,List.replicate,List.cons_append,List.nil_append,Nat.reduceAdd,Nat.reduceSub]
 unfold iS
 refine aY <| G9 <| cF (d:=cg ins gs os) rfl ⟨_,rfl,_,rfl,?_⟩
 simp only[List.set_cons_succ,List.set_cons_zero]
 refine aY <| bC (by simp only[List.length_cons,List.length_nil,List.length_set];omega) <| j6 (ds:=(dR (ins.length+gs.length) os 0).map (mI 6)) ?_ ⟨_,rfl,?_⟩
 ·refine(Eo (ds:=[.int 0]) (n:=ins.length+gs.length) (oE rfl (by simp;omega)) (az (a:=nI ins.length) (b:=nI gs.length) (aM (ds:=[.lst (ins.map MT.inD)]) rfl (by rw[lj,List.length_map];rfl)) (aM (ds:=[.lst (gs.map eW)]) rfl (by rw[lj,List.length_map];rfl)) rfl) (by omega) (by simp;omega)).trans ?_
  unfold dR
  rw[List.map_replicate,mk_zero,Ag,List.map_replicate]
 simp only[List.set_cons_succ,List.set_cons_zero]
 show W3 (bu _ _ (uE ins gs os S.length none none none none none) (mS S (dR (ins.length+gs.length) os 0))) _
 refine aY <| fA <| lu (ds:=bV (os.map wx)) rfl ?_
 have hel:((bV (os.map wx)).map V3.d).length=os.length:=by simp [bV]
 refine(bH (fun i δ S2=>∃a5 a6 a7,δ=uE ins gs os S.length a5 a6 a7 none none∧S2=mS S (dR (ins.length+gs.length) os i))
  ⟨_,_,_,rfl,rfl⟩ ?_).mono fun o S2 ⟨δ2,e2',a5,a6,a7,hδ,hS2⟩=>⟨δ2,e2',?_⟩
 ·rintro i v δ S2 hv ⟨a5,a6,a7,rfl,rfl⟩
  obtain⟨d,hd,rfl⟩:=l_ hv
  obtain⟨x,hx,rfl⟩:=NT.oB hd
  have hio:=(List.getElem?_eq_some_iff.mp hx).1
  obtain⟨w,hw⟩:=P.o1 x (List.mem_of_getElem? hx)
  have hwl:=P.ow x (List.mem_of_getElem? hx)
  rw[hw] at hwl
  refine⟨uE ins gs os S.length (some (.d (nI i))) (some (.d (.str x.1))) (some (.d (.tup (x.2.map nI)))) none none,rfl,?_⟩
  refine zJ (by omega) hw (by rw[fL];exact hwl) ⟨_,rfl,_,_,_,rfl,?_⟩
  conv=>rhs;unfold dR
  rw[hx]
  show _=mS S (tL _ (x.2.getD 0 0) _)
  rw[hw];rfl
 rw[hel] at hS2
 subst hδ hS2
 have hF0:(dR (ins.length+gs.length) os os.length).length=ins.length+gs.length:=fL _ _ _
 generalize hF:dR (ins.length+gs.length) os os.length=F at hF0
 refine aY <| fA <| lu (ds:=o8 ((gs.length:Int) - 1) gs.length) ?_ ?_
 ·unfold Bf
  rw[az (r:= .ok (.int ((gs.length:Int) - 1))) (a:=nI gs.length) (b:= .int 1) (aM (ds:=[.lst (gs.map eW)]) rfl (by rw[lj,List.length_map];rfl)) rfl rfl,R.aP]
  show R.bt (decide ((-1:Int)= -1∧ -(2 ^ 60)≤(gs.length:Int) - 1∧(gs.length:Int) - 1 < 2 ^ 60∧ -(2 ^ 60)≤(-1:Int)∧(-1:Int) < 2 ^ 60)) (.ok (o8 ((gs.length:Int) - 1) ((gs.length:Int) - 1 - (-1)).toNat))=_
  rw[bQ _ ⟨rfl,by omega,by omega,by omega,by omega⟩,show((gs.length:Int) - 1 - (-1)).toNat=gs.length by omega]
 have hdl:((o8 ((gs.length:Int) - 1) gs.length).map V3.d).length=gs.length:=by rw[List.length_map,o8,List.length_map,List.length_range]
 refine(bH (fun i δ S2=>∃a8 a9,δ=uE ins gs os S.length a5 a6 a7 a8 a9∧S2=mS S (fX ins.length gs i F))
  ⟨_,_,rfl,rfl⟩ ?_).mono fun o S2 ⟨δ2,e2',a8,a9,hδ,hS2⟩=>⟨δ2,e2',?_⟩
 ·rintro i v δ S2 hv ⟨a8,a9,rfl,rfl⟩
  obtain⟨hi',rfl⟩:=Gr hv
  have hji:(gs.length:Int) - 1 - i=((gs.length - 1 - i:Nat):Int):=by omega
  rw[hji]
  have hgi:gs[gs.length - 1 - i]? =some gs[gs.length - 1 - i]:=List.getElem?_eq_getElem (by omega)
  refine⟨uE ins gs os S.length a5 a6 a7 (some (.d (nI (gs.length - 1 - i)))) a9,rfl,?_⟩
  refine(yP (by rw[i9,hF0]) hgi (P.g _ _ hgi)).mono fun o S3 ⟨b9,eo,e3⟩=>⟨_,eo,_,b9,rfl,?_⟩
  rw[e3]
  conv=>rhs;unfold fX
  rw[hgi]
 rw[hdl] at hS2
 subst hδ hS2
 have hFF:fX ins.length gs gs.length F=pI ins gs os:=by rw[←hF];rfl
 rw[hFF]
 unfold uE
 refine D1 (k:=S.length) (ds:=(pI ins gs os).map (mI 6)) rfl mL ?_
 have hfl:(pI ins gs os).length=ins.length+gs.length:=by unfold pI;rw [i9,fL]
 have hcut:(((pI ins gs os).map (mI 6)).drop ins.length)=(List.range gs.length).map fun i=>mI 6 (fin ins gs os i):=by
  refine List.ext_getElem? fun k=>?_
  rw[List.getElem?_drop,List.getElem?_map,List.getElem?_map]
  by_cases hk:k < gs.length
  ·rw[List.getElem?_range hk,List.getElem?_eq_getElem (by omega)]
   show some (mI 6 _)=some (mI 6 (fin ins gs os k))
   unfold fin cu
   rw[List.getD_eq_getElem?_getD,List.getElem?_eq_getElem (by omega)];rfl
  ·rw[List.getElem?_eq_none (by omega),List.getElem?_eq_none (by simp;omega)];rfl
 simp only[List.set_cons_succ,List.set_cons_zero]
 refine eA <| cF (d:= .lst ((List.range gs.length).map fun i=>mI 6 (fin ins gs os i))) ?_ ⟨_,rfl,?_,by unfold eQ;rfl,_,by unfold res;rfl,?_⟩
 ·refine rR (d:= .lst ((pI ins gs os).map (mI 6))) (lo:=some (ins.length:Int)) (hi:=none) rfl (uH (aM (ds:=[.lst (ins.map MT.inD)]) rfl (by rw[lj,List.length_map]))) rfl ?_
  show R.ok (D.lst (L2.cutD ((pI ins gs os).map (mI 6)) (some (ins.length:Int)) none))=_
  rw[←hcut]
  congr 2
  unfold L2.cutD
  rw[HT.om]
  show(((pI ins gs os).map (mI 6)).drop _).take _=_
  rw[List.length_map,hfl,Nat.min_eq_left (by omega),List.take_of_length_le (by rw[List.length_drop,List.length_map,hfl];exact Nat.le_refl _)]
 ·intro o ho
  have:((mS S (pI ins gs os)).set S.length SO.gq).take S.length=S:=by
   unfold mS
   rw[cG,List.take_append_of_le_length (Nat.le_refl _),List.take_length]
  rw[this] at ho
  exact hS o ho
 ·have:((mS S (pI ins gs os)).set S.length SO.gq).take S.length=S:=by
   unfold mS
   rw[cG,List.take_append_of_le_length (Nat.le_refl _),List.take_length]
  rw[this]
  exact h
end
end K23
end
section
set_option maxRecDepth 100000
set_option maxHeartbeats 400000
namespace K23
open PySem PySem.Spec PyProof.Rows L2 L3 MT
noncomputable def sE(k:Nat)(locs:List V3)(nm:List Str)(g:Nat)(a4 a5 a6 a7 a8 a9:Option V3):DE:=[some (.loc k),some (.lst locs),some (.d (.lst (nm.map .str))),some (.loc g),a4,a5,a6,a7,a8,a9]
noncomputable def IY(S:aF)(gs:List Gt):aF:=S++[SO.lst (gs.map eW)]
theorem CH{S:aF}{gs:List Gt}:(IY S gs)[S.length]? =some (.lst (gs.map eW)):=bh _ _
theorem zt(a b:Nat):fw (nI a) (nI b)= .ok (nI (a+b)):=by
 show R.ok (D.int ((a:Int)+(b:Int)))= .ok (.int ((a+b:Nat):Int))
 rw[Int.natCast_add]
theorem EG{ds es:List D}(h:ds.length+es.length≤sizeLine):fw (.tup ds) (.tup es)= .ok (.tup (ds++es)):=bQ _ h
theorem AR{δ:aq}{f:FD}{a:Nat}(b:Nat)(hb:1≤b)(ha:1≤a)(hf:f δ= .ok (nI a)):∃m:Int,0 < m∧m≤a∧aO lZ (aw f (aw (eC (.int b)) bb)) δ= .ok (.int m):=by
 refine⟨if(b:Int) < a then b else a,by split <;> omega,by split <;> omega,?_⟩
 exact aM (ds:=[nI a, .int b]) (a_ hf rfl) rfl
theorem Bt{k n r:Nat}{j:Nat}{S:aF}{locs:List V3}{nm:List Str}{gs:List Gt}{a5 a6 a7 a8 a9:Option V3}(hP:nS n S)(hj:j < n)(hnm:nm.length=r)(hr1:1≤r)(hr6:r≤6)(hgl:gs.length < 1000) :
 W3 (fB (sE k locs nm n (some (.loc j)) a5 a6 a7 a8 a9) (IY S gs)) fun o S1=>∃b5 b6 b7,o= .nx (sE k locs nm n (some (.loc j)) b5 b6 b7 a8 a9)∧∃S' g,S1=S'++[SO.lst ((gs++[g]).map eW)]∧nS n S'∧sg (r+gs.length) g∧(g.1=0∨g.1=3):=by
 have hz:sizeLine=16777216:=sizeLine_eq
 have hSl:=hP.2.1
 unfold fB sE
 refine aY <| bC (by simp only[List.length_cons,List.length_nil,List.length_set];omega) <| BQ (d:=nI (r+gs.length)) (az (a:=nI r) (b:=nI gs.length) (aM (ds:=[.lst (nm.map .str)]) (a_ (jj (v:= .d (.lst (nm.map .str))) rfl (by unfold res;rfl)) rfl) (by rw[lj,List.length_map,hnm];rfl)) (aM (ds:=[.lst (gs.map eW)]) (a_ (jj (v:= .loc n) rfl (jy (by rw[←hSl];exact CH))) rfl) (by rw[lj,List.length_map];rfl)) (zt _ _)) rfl ⟨_,rfl,?_⟩
 simp only[List.set_cons_succ,List.set_cons_zero]
 have p0:wc j (IY S gs):=(hP.2.2 j hj).app (oQ _)
 obtain⟨m1,hm1,hm2,em1⟩:=AR (δ:=down [some (.loc k),some (.lst locs),some (.d (.lst (nm.map .str))),some (.loc n),some (.loc j),some (.d (nI (r+gs.length))),a6,a7,a8,a9]) (f:=ag 5) (a:=r+gs.length) 6 (by omega) (by omega) rfl
 refine aY <| bC (by simp only[List.length_cons,List.length_nil,List.length_set];omega) <| rC <| aI <| Cw <| cF (d:= .int (((r+gs.length:Nat):Int) - 1)) rfl <| draw (k:=j) rfl p0 em1 hm1 (by omega) fun q1 S1 h1 h2 v1=>⟨_,_, .int ((((r+gs.length:Nat):Int) - 1 - q1).toNat:Nat),rfl,rfl,by rw[Int.toNat_of_nonneg (by omega)];rfl,cH ⟨by simp;omega,_,rfl,?_⟩⟩
 simp only[List.set_cons_succ,List.set_cons_zero]
 obtain⟨T1,rfl,u1⟩:=v1.split (by omega)
 have hP1:=hP.ev hj u1
 have hw1:(((r+gs.length:Nat):Int) - 1 - q1).toNat < r+gs.length:=by omega
 generalize (((r+gs.length:Nat):Int) - 1 - q1).toNat=w1 at hw1
 refine aY <| bC (by simp only[List.length_cons,List.length_nil,List.length_set];omega) <| cF (d:= .str (kS 0)) rfl ⟨_,rfl,?_⟩
 simp only[List.set_cons_succ,List.set_cons_zero]
 have fin:∀(kd:Nat) (ws:List Nat) (T:aF),kd≤4→ws.length=ar kd→(kd=0∨kd=3)→(∀w∈ws,w < r+gs.length)→nS n T→W3 (mG 3 (tE (aC (xP (ag 7)) (aC (xP (ag 6)) (aC (x2 mB (df bx (aC (cj 4) (aC (xP (eC (.int 6))) cN))) (xP (eC (.int 0)))) cN)))) [some (.loc k),some (.lst locs),some (.d (.lst (nm.map .str))),some (.loc n),some (.loc j),some (.d (nI (r+gs.length))),some (.d (.tup (ws.map nI))),some (.d (.str (kS kd))),a8,a9] (T++[SO.lst (gs.map eW)])) fun o S1=>∃b5 b6 b7,o= .nx [some (.loc k),some (.lst locs),some (.d (.lst (nm.map .str))),some (.loc n),some (.loc j),b5,b6,b7,a8,a9]∧∃S' g,S1=S'++[SO.lst ((gs++[g]).map eW)]∧nS n S'∧sg (r+gs.length) g∧(g.1=0∨g.1=3):=fun kd ws T hk4 hwl hk03 hws hT=>by
  have hTl:=hT.2.1
  have gT:(T++[SO.lst (gs.map eW)])[n]? =some (.lst (gs.map eW)):=by rw[←hTl];exact bh _ _
  have p1:wc j (T++[SO.lst (gs.map eW)]):=(hT.2.2 j hj).app (oQ _)
  refine oH (k:=n) rfl ⟨_,gT⟩ <| rC <| aI <| cF (d:= .str (kS kd)) rfl <| aI <| cF (d:= .tup (ws.map nI)) rfl <| aI <| Cw <| draw (k:=j) rfl p1 rfl (by omega) (by omega) fun q3 S3 h5 h6 v3=>cF (d:= .int 0) rfl ⟨_,_, .bl (decide (q3=0)),rfl,rfl,rfl,cH ⟨by simp;omega,?_⟩⟩
  obtain⟨T3,rfl,u3⟩:=v3.split (by omega)
  have hP3:=hT.ev hj u3
  have hT3:=hP3.2.1
  have gT3:(T3++[SO.lst (gs.map eW)])[n]? =some (.lst (gs.map eW)):=by rw[←hT3];exact bh _ _
  refine⟨eW (kd,ws,decide (q3=0)),_,rfl,gT3,by rw[List.length_map];omega,_,_,_,rfl,T3,(kd,ws,decide (q3=0)),?_,hP3,⟨hk4,hwl,hws⟩,hk03⟩
  have hset:(T3++[SO.lst (gs.map eW)]).set n (.lst (gs.map eW++[eW (kd,ws,decide (q3=0))]))=T3++[SO.lst (gs.map eW++[eW (kd,ws,decide (q3=0))])]:=by rw[←hT3];exact cG _ _ _
  rw[hset,List.map_append];rfl
 have p1:wc j (T1++[SO.lst (gs.map eW)]):=(hP1.2.2 j hj).app (oQ _)
 refine aY <| kN <| Gg <| draw (k:=j) rfl p1 rfl (by omega) (by omega) fun q2 S2 h3 h4 v2=>cF (d:= .int 0) rfl ⟨_,_,decide ((0:Int) < q2),rfl,rfl,rfl,?_⟩
 obtain⟨T2,rfl,u2⟩:=v2.split (by rw[hP1.2.1];exact hj)
 have hP2:=hP1.ev hj u2
 by_cases hq:(0:Int) < q2
 ·rw[decide_eq_true hq,if_pos rfl]
  refine aY <| bC (by simp only[List.length_cons,List.length_nil,List.length_set];omega) <| cF (d:= .str (kS 3)) rfl ⟨_,rfl,?_⟩
  simp only[List.set_cons_succ,List.set_cons_zero]
  have p2:wc j (T2++[SO.lst (gs.map eW)]):=(hP2.2.2 j hj).app (oQ _)
  refine bC (by simp only[List.length_cons,List.length_nil,List.length_set];omega) <| Cw <| cF (d:= .tup [nI w1]) rfl <| rC <| aI <| draw (k:=j) (m:=((r+gs.length:Nat):Int)) rfl p2 rfl (by omega) (by omega) fun q4 S4 h7 h8 v4=>cH ⟨by simp;omega,?_⟩
  obtain⟨T4,rfl,u4⟩:=v4.split (by rw[hP2.2.1];exact hj)
  obtain⟨w2,rfl⟩:=Int.eq_ofNat_of_zero_le h7
  refine⟨.tup [nI w1], .tup [nI w2], .tup [nI w1,nI w2],rfl,rfl,EG (by simp;omega),_,rfl,?_⟩
  simp only[List.set_cons_succ,List.set_cons_zero]
  exact fin 3 [w1,w2] T4 (by omega) rfl (.inr rfl) (fun w hw=>by
   simp only[List.mem_cons,List.not_mem_nil,or_false] at hw
   rcases hw with rfl | rfl
   ·exact hw1
   ·omega) (hP2.ev hj u4)
 ·rw[decide_eq_false hq,if_neg (by decide)]
  refine h_ ⟨_,rfl,?_⟩
  exact fin 0 [w1] T2 (by omega) rfl (.inl rfl) (fun w hw=>by rw[List.mem_singleton.mp hw];exact hw1) hP2
theorem HI{δ:aq}{fm fj:FD}{n j:Nat}(hn:0 < n)(hm:fm δ= .ok (nI n))(hj:fj δ= .ok (nI j)):∃m:Int,0 < m∧m≤n∧e2 cR (eNew (fD (aw fm (aw (aO lZ (aw fm (aw (eC (.int 8)) bb))) bb)))) (e2 jQ fj (eC (.int 2))) δ= .ok (.int m):=by
 have hz:sizeLine=16777216:=sizeLine_eq
 have hj2:(j:Int) % 2=0∨(j:Int) % 2=1:=by omega
 have em:jQ (nI j) (.int 2)= .ok (.int ((j:Int) % 2)):=BP (by omega)
 obtain⟨q,hq1,hq2,eq⟩:=AR (δ:=δ) 8 (by omega) (by omega) hm
 have el:eNew (fD (aw fm (aw (aO lZ (aw fm (aw (eC (.int 8)) bb))) bb))) δ= .ok (.lst [nI n, .int q]):=
  eJ (oE (a_ hm (a_ eq rfl)) (by simp;omega))
 rcases hj2 with h | h
 ·rw[h] at em
  exact⟨n,by omega,by omega,az el (az hj rfl em) rfl⟩
 ·rw[h] at em
  exact⟨q,hq1,hq2,az el (az hj rfl em) rfl⟩
theorem Ew{i:Nat}(h:i < 6):∃s:Str,(cR (.str (Str.ofString "abcdef")) (nI i)).bind (fun d=>fw (.str (Str.ofString "o")) d)= .ok (.str s):=by
 rcases(by omega:i=0∨i=1∨i=2∨i=3∨i=4∨i=5) with rfl | rfl | rfl | rfl | rfl | rfl <;> exact⟨_,rfl⟩
theorem uY{n:Nat}{S:aF}{ls:List Nat}(hn:0 < n)(hls:∀j∈ls,j < n)(hll:ls.length≤40)(hP:nS n S){Q:V3→aF→Prop}
 (h:∀(l:List (Str × Nat)) (gs:List Gt) (os:List (Str × List Nat)) S1,Pl l.length l gs os→Ea gs→1≤l.length→l.length≤6→gs.length=ls.length→1≤os.length→os.length≤6→nS n S1→Q (.d (cg l gs os)) S1) :
 W3 (eG [.loc 0, .lst (ls.map .loc)] S) Q:=by
 have hz:sizeLine=16777216:=sizeLine_eq
 have hSl:=hP.2.1
 unfold eG
 refine AX (vc rfl ?_)
 simp only[bE,d6,List.map_cons,List.map_nil,List.length_cons,List.length_nil,List.replicate,List.cons_append,List.nil_append,Nat.reduceAdd,Nat.reduceSub]
 unfold ib
 refine aY <| bC (by simp only[List.length_cons,List.length_nil,List.length_set];omega) <| JS <| cF (d:= .lst ([Str.ofString "a",Str.ofString "bb",Str.ofString "signal",Str.ofString "x",Str.ofString "yes",Str.ofString "abcdefgh"].map .str)) rfl <| GZ <| GS <| Cw <| cF (d:= .int 1) rfl <| draw (k:=0) rfl (hP.2.2 0 hn) rfl (by omega) (by omega) fun r0 S1 h1 h2 v1=>⟨_,_, .int ((1+r0.toNat:Nat):Int),rfl,rfl,?_,_,rfl,?_⟩
 ·show R.ok (D.int (1+r0))=_
  congr 2
  omega
 have hP1:=hP.ev hn v1
 obtain⟨r0,rfl⟩:=Int.eq_ofNat_of_zero_le h1
 rw[Int.toNat_natCast]
 have hr6:1+r0≤6:=by omega
 have hcut:∀xs:List Str,DZ (.lst (xs.map .str)) none (some ((1+r0:Nat):Int))= .ok (.lst ((xs.take (1+r0)).map .str)):=fun xs=>by
  show R.ok (D.lst (L2.cutD (xs.map .str) none (some ((1+r0:Nat):Int))))=_
  rw[wb _ (by omega),Int.toNat_natCast,List.map_take]
 refine⟨_,_,rfl,hcut _,_,rfl,?_⟩
 have hnml:([Str.ofString "a",Str.ofString "bb",Str.ofString "signal",Str.ofString "x",Str.ofString "yes",Str.ofString "abcdefgh"].take (1+r0)).length=1+r0:=by rw[List.length_take];simp;omega
 generalize [Str.ofString "a",Str.ofString "bb",Str.ofString "signal",Str.ofString "x",Str.ofString "yes",Str.ofString "abcdefgh"].take (1+r0)=nm at hnml
 simp only[List.set_cons_succ,List.set_cons_zero]
 have hS1:=hP1.2.1
 refine aY <| bC (by simp only[List.length_cons,List.length_nil,List.length_set];omega) <| j6 (ds:=[]) rfl ⟨_,rfl,?_⟩
 simp only[List.set_cons_succ,List.set_cons_zero]
 refine aY <| fA <| Cb <| w_var (v:= .lst (ls.map .loc)) rfl ⟨_,rfl,?_⟩
 refine(bH (fun i δ S2=>∃a4 a5 a6 a7,δ=sE 0 (ls.map .loc) nm n a4 a5 a6 a7 none none∧∃S' gs,S2=S'++[SO.lst (gs.map eW)]∧nS n S'∧gs.length=i∧(∀(p:Nat) (g:Gt),gs[p]? =some g→sg (1+r0+p) g)∧Ea gs)
  ⟨_,_,_,_,by rw[hS1];rfl,S1,[],rfl,hP1,rfl,by simp,fun g hg=>by cases hg⟩ ?_).mono fun o S2 ⟨δ2,e2',a4,a5,a6,a7,hδ,S',gs,hS2,hP',hgl,hgs,hL⟩=>⟨δ2,e2',?_⟩
 ·rintro i v δ S2 hv ⟨a4,a5,a6,a7,rfl,S',gs,rfl,hP',hgl,hgs,hL⟩
  rw[List.getElem?_map] at hv
  obtain⟨j,hj,rfl⟩:∃j,ls[i]? =some j∧v=V3.loc j:=by
   cases q:ls[i]? with
   | none=>rw [q] at hv;cases hv
   | some j=>rw [q] at hv;cases hv;exact⟨j,rfl,rfl⟩
  have hil:i < ls.length:=(List.getElem?_eq_some_iff.mp hj).1
  refine⟨sE 0 (ls.map .loc) nm n (some (.loc j)) a5 a6 a7 none none,rfl,?_⟩
  have hSn:=hP'.2.1
  refine(Bt (k:=0) hP' (hls j (List.mem_of_getElem? hj)) hnml (by omega) hr6 (by omega)).mono fun o S3 ⟨b5,b6,b7,eo,S4,g,e3,hP4,hg,hk⟩=>⟨_,eo,_,b5,b6,b7,rfl,S4,gs++[g],e3,hP4,by simp [hgl],?_,?_⟩
  ·intro p g' hp
   by_cases hpl:p < gs.length
   ·rw[List.getElem?_append_left hpl] at hp;exact hgs p g' hp
   ·rw[List.getElem?_append_right (by omega)] at hp
    have h0:p - gs.length=0:=by
     have:=(List.getElem?_eq_some_iff.mp hp).1
     simp at this;omega
    rw[h0] at hp
    cases hp
    rw[show p=gs.length by omega]
    exact hg
  ·intro g' hg'
   rcases List.mem_append.mp hg' with z | z
   ·exact hL g' z
   ·rw[List.mem_singleton.mp z];exact hk
 rw[List.length_map] at hgl
 subst hδ hS2
 have hSn:=hP'.2.1
 unfold sE
 have gT:(S'++[SO.lst (gs.map eW)])[n]? =some (.lst (gs.map eW)):=by rw[←hSn];exact bh _ _
 refine aY <| bC (by simp only[List.length_cons,List.length_nil,List.length_set];omega) <| BQ (d:=nI (1+r0+gs.length)) (az (a:=nI (1+r0)) (b:=nI gs.length) (aM (ds:=[.lst (nm.map .str)]) (a_ (jj (v:= .d (.lst (nm.map .str))) rfl (by unfold res;rfl)) rfl) (by rw[lj,List.length_map,hnml];rfl)) (aM (ds:=[.lst (gs.map eW)]) (a_ (jj (v:= .loc n) rfl (jy gT)) rfl) (by rw[lj,List.length_map];rfl)) (zt _ _)) rfl ⟨_,rfl,?_⟩
 simp only[List.set_cons_succ,List.set_cons_zero]
 refine aY <| bC (by simp only[List.length_cons,List.length_nil,List.length_set];omega) <| j6 (ds:=[]) rfl ⟨_,rfl,?_⟩
 simp only[List.set_cons_succ,List.set_cons_zero]
 rw[show(S'++[SO.lst (gs.map eW)]).length=n+1 by simp [hSn],List.append_assoc]
 have hap:∀(A B:List D) (T:aF),T++([SO.lst A]++[SO.lst B])=T++[SO.lst A,SO.lst B]:=fun _ _ _=>rfl
 rw[hap]
 refine aY <| fA <| Fg <| Cw <| cF (d:= .int 1) rfl <| draw (k:=0) rfl ((hP'.2.2 0 hn).app (AB _ _)) rfl (by omega) (by omega) fun ro S5 h5 h6 v5=>⟨_,_, .int ((1+ro.toNat:Nat):Int),rfl,rfl,?_,_,rfl,by omega,?_⟩
 ·show R.ok (D.int (1+ro))=_
  congr 2
  omega
 obtain⟨T5,rfl,u5⟩:=v5.split (by omega)
 have hP5:=hP'.ev hn u5
 refine(bH (fun i δ S6=>∃a9,δ=[some (.loc 0),some (.lst (ls.map .loc)),some (.d (.lst (nm.map .str))),some (.loc n),a4,some (.d (nI (1+r0+gs.length))),a6,a7,some (.loc (n+1)),a9]∧∃T os,S6=T++[SO.lst (gs.map eW),SO.lst (os.map wx)]∧nS n T∧os.length=i∧∀x∈os,∃w,x.2=[w]∧w < 1+r0+gs.length)
  ⟨_,rfl,T5,[],rfl,hP5,rfl,fun x hx=>by cases hx⟩ ?_).mono fun o S6 ⟨δ6,e6,a9,hδ,T,os,hS6,hPT,hol,hos⟩=>⟨δ6,e6,?_⟩
 ·rintro i v δ S6 hv ⟨a9,rfl,T,os,rfl,hPT,hol,hos⟩
  obtain⟨hi,rfl⟩:=NT.BC hv
  have hTn:=hPT.2.1
  refine⟨[some (.loc 0),some (.lst (ls.map .loc)),some (.d (.lst (nm.map .str))),some (.loc n),a4,some (.d (nI (1+r0+gs.length))),a6,a7,some (.loc (n+1)),some (.d (nI i))],rfl,?_⟩
  unfold ji
  have gO:∀(T:aF) (L:List D),T.length=n→(T++[SO.lst (gs.map eW),SO.lst L])[n+1]? =some (.lst L):=fun T L hT=>by rw[List.getElem?_append_right (by omega),show n+1 - T.length=1 by omega];rfl
  obtain⟨s,es⟩:=Ew (i:=i) (by omega)
  obtain⟨mm,hm1,hm2,em⟩:=HI (δ:=down [some (.loc 0),some (.lst (ls.map .loc)),some (.d (.lst (nm.map .str))),some (.loc n),a4,some (.d (nI (1+r0+gs.length))),a6,a7,some (.loc (n+1)),some (.d (nI i))]) (fm:=ag 5) (fj:=ag 9) (n:=1+r0+gs.length) (j:=i) (by omega) rfl rfl
  refine oH (k:=n+1) rfl ⟨_,gO T _ hTn⟩ <| rC <| aI <| cF (d:= .str s) es <| aI <| rC <| aI <| Cw <| cF (d:= .int (((1+r0+gs.length:Nat):Int) - 1)) rfl <| draw (k:=0) rfl ((hPT.2.2 0 hn).app (AB _ _)) em hm1 (by omega) fun q S7 h7 h8 v7=>⟨_,_, .int ((((1+r0+gs.length:Nat):Int) - 1 - q).toNat:Nat),rfl,rfl,by rw[Int.toNat_of_nonneg (by omega)];rfl,cH ⟨by simp;omega,cH ⟨by simp;omega,?_⟩⟩⟩
  obtain⟨T7,rfl,u7⟩:=v7.split (by omega)
  have hP7:=hPT.ev hn u7
  have hT7:=hP7.2.1
  refine⟨wx (s,[(((1+r0+gs.length:Nat):Int) - 1 - q).toNat]),_,rfl,gO T7 _ hT7,by rw[List.length_map];omega,_,rfl,_,rfl,T7,os++[(s,[(((1+r0+gs.length:Nat):Int) - 1 - q).toNat])],?_,hP7,by simp [hol],?_⟩
  ·rw[List.set_append_right _ _ (by omega),show n+1 - T7.length=1 by omega,List.map_append];rfl
  ·intro x hx
   rcases List.mem_append.mp hx with z | z
   ·exact hos x z
   ·rw[List.mem_singleton.mp z];exact⟨_,rfl,by omega⟩
 rw[NT.uu] at hol
 subst hδ hS6
 have hTn:=hPT.2.1
 have e1:(T++[SO.lst (gs.map eW),SO.lst (os.map wx)]++[SO.lst ((nm.map fun s=>(s,1)).map MT.inD)])[n]? =some (.lst (gs.map eW)):=by rw[List.append_assoc,List.getElem?_append_right (by omega),show n - T.length=0 by omega];rfl
 have e2':(T++[SO.lst (gs.map eW),SO.lst (os.map wx)]++[SO.lst ((nm.map fun s=>(s,1)).map MT.inD)])[n+1]? =some (.lst (os.map wx)):=by rw[List.append_assoc,List.getElem?_append_right (by omega),show n+1 - T.length=1 by omega];rfl
 have e3:(T++[SO.lst (gs.map eW),SO.lst (os.map wx)]++[SO.lst ((nm.map fun s=>(s,1)).map MT.inD)])[n+2]? =some (.lst ((nm.map fun s=>(s,1)).map MT.inD)):=by rw[List.append_assoc,List.getElem?_append_right (by omega),show n+2 - T.length=2 by omega];rfl
 refine eA <| rC <| aI <| j6 (ds:=(nm.map fun s=>(s,1)).map MT.inD) ?_ <| aI <| w_var (v:= .loc n) rfl <| aI <| w_var (v:= .loc (n+1)) rfl <| cH ⟨by simp;omega,_,rfl,?_,?_,cg (nm.map fun s=>(s,1)) gs os,?_,?_⟩
 ·refine dm (ds:=nm.map .str) (fq rfl) (by rw[List.length_map];omega) ?_
  rw[List.map_map]
  exact NT.cI (t:=bg 0) (c:=jV) (δ:=[.un]) D.str _ fun s _=>⟨[.val (.str s)],rfl,rfl,gB (ds:=[.str s, .int 1]) rfl (by simp;omega)⟩
 ·intro o ho
  rcases List.mem_append.mp ho with z | z
  ·rcases List.mem_append.mp z with y | y
   ·exact hPT.1 o y
   ·exact AB _ _ o y
  ·exact oQ _ o z
 ·rw[show(T++[SO.lst (gs.map eW),SO.lst (os.map wx)]).length=n+2 by simp [hTn]]
  show eQ S.length (.tup [.loc (n+2), .loc n, .loc (n+1)])=true
  simp [eQ,mv];omega
 ·rw[show(T++[SO.lst (gs.map eW),SO.lst (os.map wx)]).length=n+2 by simp [hTn]]
  show res _ (.tup [.loc (n+2), .loc n, .loc (n+1)])=_
  simp only[res,k9,e1,e2',e3]
  rfl
 ·have hw1:∀x∈nm.map (fun s=>((s,1):Str × Nat)),x.2=1:=fun x hx=>by obtain⟨s,_,rfl⟩:=List.mem_map.mp hx;rfl
  have hll':(nm.map fun s=>((s,1):Str × Nat)).length=1+r0:=by rw[List.length_map,hnml]
  have hwid:lS (nm.map fun s=>((s,1):Str × Nat))=1+r0:=by rw[wq hw1,hll',Nat.one_mul]
  have htk:(T++[SO.lst (gs.map eW),SO.lst (os.map wx)]++[SO.lst ((nm.map fun s=>(s,1)).map MT.inD)]).take S.length=T:=by
   rw[hSl,←hTn,List.append_assoc,List.take_append_of_le_length (Nat.le_refl _),List.take_length]
  rw[htk]
  refine h _ gs os T ⟨⟨by rw[hll'];omega,fun x hx=>by rw[hw1 x hx];omega,by omega,fun p g hp=>by rw[hwid];exact hgs p g hp,by omega,fun x hx=>?_⟩,rfl,hw1,fun x hx=>?_⟩ hL (by rw[hll'];omega) (by rw[hll'];exact hr6) (by omega) (by omega) (by omega) hPT
  ·obtain⟨w,e,hw⟩:=hos x hx
   rw[e,hwid]
   exact⟨by simp,fun v hv=>by rw[List.mem_singleton.mp hv];exact hw⟩
  ·obtain⟨w,e,_⟩:=hos x hx
   exact⟨w,e⟩
end K23
end
section
set_option maxRecDepth 100000
set_option maxHeartbeats 400000
namespace K23
open PySem PySem.Spec PyProof.Rows L2 L3 MT
theorem HV{fa fb:FX}{δ:DE}{S:aF}{QV:V3→aF→Prop}(h:W3 (fa δ S) fun a S1=>W3 (fb δ S1) fun b S2=>∃vs i v,a= .lst vs∧b= .d (.int i)∧nR vs i=some v∧QV v S2):W3 (HM fa fb δ S) QV:=
 W3.bind (h.mono fun _ _ h=>W3.bind (h.mono fun _ _ ⟨vs,i,v,e1,e2,e3,q⟩=>by
  subst e1 e2
  simp only[e3]
  exact W3.ok q))
theorem zY{a b:D}{k:Bool}(h:mB a b= .ok (.bl k)):vd a b= .ok (.bl (!k)):=by
 unfold mB at h
 unfold vd
 cases q:BR a b with
 | ok x=>rw [q] at h;cases h;rfl
 | no=>rw [q] at h;cases h
 | ex _=>rw [q] at h;cases h
theorem HN(b:Bool):nQ [.bl b]= .ok (nI (if b then 1 else 0)):=by cases b <;> rfl
theorem DI{f:M}{K:Nat}(hK:K≤6)(h:∀k,K≤k→f k=false):(!(decide (jf 6 f=0)))=(List.range K).any f:=by
 cases q:(List.range K).any f with
 | false=>
   rw[List.any_eq_false] at q
   rw[decide_eq_true (i0.mpr fun k _=>?_)]
   ·rfl
   ·by_cases hk:k < K
    ·exact Bool.eq_false_iff.mpr (q k (List.mem_range.mpr hk))
    ·exact h k (by omega)
 | true=>
   rw[decide_eq_false fun e=>?_]
   ·rfl
   ·obtain⟨k,hk,hf⟩:=List.any_eq_true.mp q
    have:=i0.mp e k (by have:=List.mem_range.mp hk;omega)
    rw[this] at hf
    cases hf
theorem BL(ns:List Int)(hn:ns.length≤63):xt [.lst (ns.map D.int)]= .ok (.bl true):=by
 have hz:sizeLine=16777216:=sizeLine_eq
 have key:W3 (mF md rF [.d (.lst (ns.map .int))] []) fun v S1=>v= .d (.bl true)∧S1=[]:=by
  refine AX (vc rfl ?_)
  simp only[bE,md,List.map_cons,List.map_nil,List.length_cons,List.length_nil,List.replicate,List.cons_append,List.nil_append,Nat.reduceAdd,Nat.reduceSub]
  unfold rF
  refine aY <| bC (by simp only[List.length_cons,List.length_nil,List.length_set];omega) <| eK <| aI <| cF (d:= .lst ((ns.take 41).map .int)) ?_ <| cH <| C2 _ ?_ fun n S1 hn0 hn41 hP=>⟨_,rfl,?_⟩
  ·refine rR (d:= .lst (ns.map .int)) (lo:=none) (hi:=some 41) rfl rfl rfl ?_
   show R.ok (D.lst (L2.cutD _ none (some 41)))=_
   rw[wb _ (by omega),List.map_take]
   rfl
  ·rw[List.length_take];omega
  have hn41:n≤41:=by rw[List.length_take] at hn41;omega
  simp only[List.set_cons_succ,List.set_cons_zero]
  obtain⟨n',rfl⟩:∃n',n=n'+1:=⟨n - 1,by omega⟩
  refine aY <| bC (by simp only[List.length_cons,List.length_nil,List.length_set];omega) <| HV <| w_var (v:= .lst ((List.range (n'+1)).map .loc)) rfl <| cF (d:= .int 0) rfl ⟨_,0, .loc 0,rfl,rfl,by rw[List.range_succ_eq_map,List.map_cons,mZ (by omega) (by simp)];rfl,_,rfl,?_⟩
  simp only[List.set_cons_succ,List.set_cons_zero]
  have hcut:L2.cutD ((List.range (n'+1)).map V3.loc) (some 1) none=((List.range (n'+1)).drop 1).map V3.loc:=by
   rw[Ay _ (by omega),List.map_drop];rfl
  refine aY <| bC (by simp only[List.length_cons,List.length_nil,List.length_set];omega) <| eK <| aI <| w_var (v:= .loc 0) rfl <| aI <| Hm <| w_var (v:= .lst ((List.range (n'+1)).map .loc)) rfl <| GS <| cF (d:= .int 1) rfl ⟨1,rfl,GZ ⟨_,rfl,cH ?_⟩⟩
  rw[hcut]
  refine uY (n:=n'+1) hn0 (fun j hj=>List.mem_range.mp (List.mem_of_mem_drop hj)) (by rw[List.length_drop,List.length_range];omega) hP fun l gs os S2 P L hl1 hl6 hgl ho1 ho6 hP2=>⟨_,rfl,?_⟩
  simp only[List.set_cons_succ,List.set_cons_zero]
  have hg40:gs.length≤40:=by rw[List.length_drop,List.length_range] at hgl;omega
  have how:∀x∈os,1≤x.2.length∧x.2.length≤3:=fun x hx=>by obtain⟨w,hw⟩:=P.o1 x hx;rw [hw];exact⟨by simp,by simp⟩
  have hsd:∀x∈os,∀p,(pt (Wd l.length l gs [] []) x p).2=!(pt (Wd l.length l gs [] []) x p).1:=fun x hx p=>by obtain⟨w,hw⟩:=P.o1 x hx;rw [BH hw,Bool.not_not]
  have hlen:∀{δ:aq},ag 3 δ= .ok (cg l gs os)→aO eu (aw (e2 cR (ag 3) (eC (.int 1))) bb) δ= .ok (nI gs.length):=fun hv=>aM (ds:=[.lst (gs.map eW)]) (a_ (az (a:=cg l gs os) (b:= .int 1) hv rfl rfl) rfl) (by rw[lj,List.length_map];rfl)
  obtain⟨most,hm1,hm3,emost⟩:∃most:Nat,1≤most∧most≤3∧e2 fZ (e2 fZ (eC (.int 1)) (aO nQ (aw (e2 vF (aO eu (aw (e2 cR (ag 3) (eC (.int 1))) bb)) (eC (.int 16))) bb))) (aO nQ (aw (e2 vF (aO eu (aw (e2 cR (ag 3) (eC (.int 1))) bb)) (eC (.int 12))) bb)) (down [some (.d (.lst (ns.map .int))),some (.lst ((List.range (n'+1)).map .loc)),some (.loc 0),some (.d (cg l gs os)),none,none,none,none,none])= .ok (nI most):=by
   have hs:∀(k:Int),aO nQ (aw (e2 vF (aO eu (aw (e2 cR (ag 3) (eC (.int 1))) bb)) (eC (.int k))) bb) (down [some (.d (.lst (ns.map .int))),some (.lst ((List.range (n'+1)).map .loc)),some (.loc 0),some (.d (cg l gs os)),none,none,none,none,none])= .ok (nI (if decide ((gs.length:Int)≤k) then 1 else 0)):=fun k=>aM (ds:=[.bl (decide ((gs.length:Int)≤k))]) (a_ (az (a:=nI gs.length) (b:= .int k) (hlen rfl) rfl rfl) rfl) (HN _)
   refine⟨1+(if decide ((gs.length:Int)≤16) then 1 else 0)+(if decide ((gs.length:Int)≤12) then 1 else 0),by omega,by split <;> split <;> omega,?_⟩
   exact az (a:=nI (1+(if decide ((gs.length:Int)≤16) then 1 else 0))) (b:=nI (if decide ((gs.length:Int)≤12) then 1 else 0)) (az (a:=nI 1) (b:=nI (if decide ((gs.length:Int)≤16) then 1 else 0)) rfl (hs 16) rfl) (hs 12) rfl
  refine aY <| bC (by simp only[List.length_cons,List.length_nil,List.length_set];omega) <| cF (d:=nI most) emost ⟨_,rfl,?_⟩
  simp only[List.set_cons_succ,List.set_cons_zero]
  refine aY <| bC (by simp only[List.length_cons,List.length_nil,List.length_set];omega) <| Cw <| cF (d:= .int 1) rfl <| draw (k:=0) (m:=(most:Int)) rfl (hP2.2.2 0 hn0) rfl (by omega) (by omega) fun r3 S3 h1 h2 v3=>⟨_,_, .int ((1+r3.toNat:Nat):Int),rfl,rfl,?_,_,rfl,?_⟩
  ·show R.ok (D.int (1+r3))=_
   congr 2
   omega
  simp only[List.set_cons_succ,List.set_cons_zero]
  have hP3:=hP2.ev hn0 v3
  have hmm1:1≤1+r3.toNat:=by omega
  have hmm3:1+r3.toNat≤3:=by omega
  generalize 1+r3.toNat=m at hmm1 hmm3
  refine aY <| bC (by simp only[List.length_cons,List.length_nil,List.length_set];omega) <| JA <| cF (d:= .lst [.str (Str.ofString "right"), .str (Str.ofString "safe")]) rfl <| draw (k:=0) rfl (hP3.2.2 0 hn0) rfl (by omega) (by omega) fun r4 S4 h3 h4 v4=>?_
  obtain⟨safe,es⟩:∃safe,cR (.lst [.str (Str.ofString "right"), .str (Str.ofString "safe")]) (.int r4)= .ok (.str (m8 safe)):=by
   have:r4=0∨r4=1:=by omega
   rcases this with rfl | rfl
   ·exact⟨false,rfl⟩
   ·exact⟨true,rfl⟩
  refine⟨_,_,_,rfl,rfl,es,_,rfl,?_⟩
  simp only[List.set_cons_succ,List.set_cons_zero]
  have hP4:=hP3.ev hn0 v4
  have hcl:lT S4:=hP4.1.LV
  refine aY <| bC (by simp only[List.length_cons,List.length_nil,List.length_set];omega) <| oG (fun j ds S5=>S5=S4∧ds=(((List.range gs.length).take j).filter fun i=>nz l gs os i && (match gs[i]? with | some g=>!g.2.2 | none=>false)).map nI) ?_
  refine EI <| eK <| aI <| cF (d:=cg l gs os) rfl <| cH <| wy P ho6 hcl ⟨_,rfl,?_,⟨rfl,by simp⟩,?_,?_⟩
  ·simp [bV];omega
  ·rintro j v ds S5 hv ⟨rfl,rfl⟩
   obtain⟨d,hd,rfl⟩:=l_ hv
   obtain⟨i,hi,rfl⟩:=NT.oB hd
   have hjl:j < gs.length:=by have:=(List.getElem?_eq_some_iff.mp hi).1;rwa [List.length_range] at this
   rw[List.getElem?_range hjl] at hi
   cases hi
   have hgj:gs[j]? =some gs[j]:=List.getElem?_eq_getElem hjl
   refine⟨[some (.d (nI j)),some (.d (mI 6 (fin l gs os j))),some (.d (cg l gs os))],rfl,lU (b:=nz l gs os j && !gs[j].2.2) ?_ ?_⟩
   ·unfold pS
    have hne:=DI (f:=fin l gs os j) ho6 fun k hk=>CQ hk
    rw[jh (k:=nz l gs os j) (a:=mI 6 (fin l gs os j)) (b:= .int 0) rfl rfl ((Km _ _).trans (by rw[hne];rfl)),R.aP]
    cases nz l gs os j with
    | false=>rfl
    | true=>
      rw[if_pos rfl]
      unfold kK jR
      rw[az (a:=eW gs[j]) (b:= .int 2) (az (a:= .lst (gs.map eW)) (b:=nI j) (az (a:=cg l gs os) (b:= .int 1) rfl rfl rfl) rfl (NT.r6 (by rw[List.getElem?_map,hgj];rfl))) rfl (show cR (eW gs[j]) (.int 2)= .ok (.bl gs[j].2.2) from rfl)]
      rfl
   have e:(((List.range gs.length).take (j+1)).filter fun i=>nz l gs os i && (match gs[i]? with | some g=>!g.2.2 | none=>false))=(((List.range gs.length).take j).filter fun i=>nz l gs os i && (match gs[i]? with | some g=>!g.2.2 | none=>false))++if nz l gs os j && !gs[j].2.2 then [j] else []:=by
    rw[List.take_add_one,List.getElem?_range hjl,show(some j).toList=[j] from rfl,List.filter_append,List.filter_cons,hgj]
    rfl
   rw[e]
   cases nz l gs os j && !gs[j].2.2 with
   | true=>rw [if_pos rfl,if_pos rfl];exact cF (d:=nI j) rfl ⟨_,rfl,rfl,by rw[List.map_append];rfl⟩
   | false=>rw [if_neg (by decide),if_neg (by decide)];exact⟨rfl,by simp⟩
  rintro ds S5 ⟨rfl,rfl⟩
  have hel:((bV ((List.range gs.length).map fun i=>mI 6 (fin l gs os i))).map V3.d).length=gs.length:=by simp [bV]
  rw[hel,List.take_of_length_le (by simp)]
  have hdue:((List.range gs.length).filter fun i=>nz l gs os i && (match gs[i]? with | some g=>!g.2.2 | none=>false))=kM l gs os:=by
   unfold kM i8
   rw[List.filter_filter] <;> rfl
  rw[hdue]
  refine⟨_,rfl,?_⟩
  simp only[List.set_cons_succ,List.set_cons_zero]
  have hul:(i8 gs).length≤40:=Nat.le_trans rW hg40
  have hdl:(kM l gs os).length≤40:=by unfold kM;exact Nat.le_trans (List.length_filter_le _ _) hul
  have hbd:=B8 (safe:=safe) (m:=m) P L hmm1
  refine aY <| bC (by simp only[List.length_cons,List.length_nil,List.length_set];omega) <| eK <| aI <| cF (d:=cg l gs os) rfl <| aI <| cF (d:=nI m) rfl <| aI <| cF (d:= .str (m8 safe)) rfl <| cH <| yn (free:=i8 gs) P.no rfl (by omega) how hsd hg40 hmm3 (jr gs) (Bi hsd (jr gs) (List.Sublist.refl _)) hul hcl fun T0 hU=>⟨_,rfl,?_⟩
  rw[hbd] at hU
  have hT0:=EJ hU
  subst hT0
  simp only[List.set_cons_succ,List.set_cons_zero]
  have hfT:lr 1 (bU (kM l gs os)):=lr.tup fun d hd=>by obtain⟨x,_,rfl⟩:=List.mem_map.mp hd;exact lr.int _
  have hfF:lr 2 (.lst (((kM l gs os).map fun x=>[x]).map bU)):=lr.lst fun d hd=>by
   obtain⟨x,_,rfl⟩:=List.mem_map.mp hd
   exact lr.tup fun d hd=>by obtain⟨y,_,rfl⟩:=List.mem_map.mp hd;exact lr.int _
  have hbP:∀Q:V3→aF→Prop,Q (.d (.lst (((kM l gs os).map fun x=>[x]).map bU))) S5→W3 (dU [.d (cg l gs os), .d (nI m), .d (.str (m8 safe))] S5) Q:=fun Q hq=>oW (safe:=safe) P.no rfl (by omega) how hg40 hmm3 hcl (by rw[hbd];exact hq)
  generalize kM l gs os=DU at hdl hfT hfF hbP
  have hne:vd (bU DU) (bU DU)= .ok (.bl false):=zY (NT.eq_self hfT (by omega))
  refine pQ <| kN <| lU (b:=false) ?_ ?_
  ·unfold AZ
   have h8:kK (jR (qx "tuple" (ag 8))) (down [some (.d (.lst (ns.map .int))),some (.lst ((List.range (n'+1)).map .loc)),some (.loc 0),some (.d (cg l gs os)),some (.d (nI most)),some (.d (nI m)),some (.d (.str (m8 safe))),some (.d (.lst (DU.map nI))),some (.d (bU DU))])= .ok false:=rfl
   have h9:b2 vd (ag 8) (aO gm (aw (ag 7) bb)) (down [some (.d (.lst (ns.map .int))),some (.lst ((List.range (n'+1)).map .loc)),some (.loc 0),some (.d (cg l gs os)),some (.d (nI most)),some (.d (nI m)),some (.d (.str (m8 safe))),some (.d (.lst (DU.map nI))),some (.d (bU DU))])= .ok false:=jh (a:=bU DU) (b:=bU DU) rfl (aM (ds:=[.lst (DU.map nI)]) rfl rfl) hne
   exact(congrArg (fun r=>R.bind r _) h8).trans h9
  rw[if_neg (by decide)]
  refine h_ ?_
  refine eA <| Cw <| eK <| aI <| cF (d:=cg l gs os) rfl <| aI <| cF (d:=nI m) rfl <| aI <| cF (d:= .str (m8 safe)) rfl <| cH <| hbP _ ?_
  refine cF (d:= .lst ((DU.map fun x=>[x]).map bU)) ?_ ⟨_,_, .bl true,rfl,rfl,El (lr.K9 hfF (by omega)), .d (.bl true),rfl,hP4.1,by unfold eQ;rfl, .bl true,by unfold res;rfl,rfl,rfl⟩
  refine eJ (dm (ds:=DU.map nI) (fq rfl) (by rw[List.length_map];omega) ?_)
  rw[List.map_map]
  exact NT.cI (t:=bg 0) (c:=jV) (δ:=[.un]) nI _ fun x _=>⟨[.val (nI x)],rfl,rfl,gB (ds:=[nI x]) rfl (by simp;omega)⟩
 obtain⟨v,S1,e,rfl,rfl⟩:=key
 unfold xt Ir
 simp only[List.map_cons,List.map_nil]
 rw[e]
 rfl
end K23
end
open PySem PySem.W PyProof.Rows
set_option maxRecDepth 100000 in
set_option maxHeartbeats 0 in
theorem PySem.Challenge.cw_bearfaults_k23_surest_of_turning_gates_holds : PySem.Challenge.rw_bearfaults_k23_surest_of_turning_gates.Holds := by
 w_on;o_law;k_head;(case hw=>w_witness2)
 k_fill
 refine L2.HB (l:=PySem.Challenge.rw_bearfaults_k23_surest_of_turning_gates) (n:=63) (k:=47) (x:=Str.ofString "script") (g:=K23.xt) rfl (by decide) rfl ⟨rfl,by decide,by decide⟩ (fun w h Y=>PySem.W.kIn_of Y) ?F K23.BL
 case F=>
  intro w mg fa h KX G hmg
  have D_vote_of:L2.Def (L2.gx KX) mg (Str.ofString "vote_of") K23.ee:=by
   dsimp only[L2.gx]
   refine' L2.cM KX G ?a ?l ?c ?k
   (case a=>k_is);(case l=>k_is);(case c=>k_is);(case k=>k_is)
  have D_gate_mask:L2.Def (L2.gx KX) mg (Str.ofString "gate_mask") K23.cW:=by
   dsimp only[L2.gx]
   refine' L2.cM KX G ?a ?l ?c ?k
   (case a=>k_is);(case l=>k_is);(case c=>k_is);(case k=>k_is)
  have D_in_wire_masks:L2.Def (L2.gx KX) mg (Str.ofString "in_wire_masks") K23.bF:=by
   dsimp only[L2.gx]
   refine' L2.cM KX G ?a ?l ?c ?k
   (case a=>k_is);(case l=>k_is);(case c=>k_is);(case k=>k_is)
  have D_masks_at:L2.Def (L2.gx KX) mg (Str.ofString "masks_at") K23.dA:=by
   dsimp only[L2.gx]
   refine' L2.cM KX G ?a ?l ?c ?k
   (case a=>k_is);(case l=>k_is);(case c=>k_is);(case k=>k_is)
  have D_wire_masks:L2.Def (L2.gx KX) mg (Str.ofString "wire_masks") K23.cy:=by
   dsimp only[L2.gx]
   refine' L2.cM KX G ?a ?l ?c ?k
   (case a=>k_is);(case l=>k_is);(case c=>k_is);(case k=>k_is)
  have D_out_masks:L2.Def (L2.gx KX) mg (Str.ofString "out_masks") K23.cZ:=by
   dsimp only[L2.gx]
   refine' L2.cM KX G ?a ?l ?c ?k
   (case a=>k_is);(case l=>k_is);(case c=>k_is);(case k=>k_is)
  have D_reading:L2.Def (L2.gx KX) mg (Str.ofString "reading") K23.en:=by
   dsimp only[L2.gx]
   refine' L2.cM KX G ?a ?l ?c ?k
   (case a=>k_is);(case l=>k_is);(case c=>k_is);(case k=>k_is)
  have D_all_inputs:L2.Def (L2.gx KX) mg (Str.ofString "all_inputs") K23.cz:=by
   dsimp only[L2.gx]
   refine' L2.cM KX G ?a ?l ?c ?k
   (case a=>k_is);(case l=>k_is);(case c=>k_is);(case k=>k_is)
  have D_mask_of:L2.Def (L2.gx KX) mg (Str.ofString "mask_of") K23.eg:=by
   dsimp only[L2.gx]
   refine' L2.cM KX G ?a ?l ?c ?k
   (case a=>k_is);(case l=>k_is);(case c=>k_is);(case k=>k_is)
  have D_in_mask:L2.Def (L2.gx KX) mg (Str.ofString "in_mask") K23.eh:=by
   dsimp only[L2.gx]
   refine' L2.cM KX G ?a ?l ?c ?k
   (case a=>k_is);(case l=>k_is);(case c=>k_is);(case k=>k_is)
  have D_choices:L2.Def (L2.gx KX) mg (Str.ofString "choices") K23.er:=by
   dsimp only[L2.gx]
   refine' L2.cM KX G ?a ?l ?c ?k
   (case a=>k_is);(case l=>k_is);(case c=>k_is);(case k=>k_is)
  have D_has_all:L2.Def (L2.gx KX) mg (Str.ofString "has_all") K23.d_:=by
   dsimp only[L2.gx]
   refine' L2.cM KX G ?a ?l ?c ?k
   (case a=>k_is);(case l=>k_is);(case c=>k_is);(case k=>k_is)
  have D_breaking:L2.Def (L2.gx KX) mg (Str.ofString "breaking") K23.dD:=by
   dsimp only[L2.gx]
   refine' L2.cM KX G ?a ?l ?c ?k
   (case a=>k_is);(case l=>k_is);(case c=>k_is);(case k=>k_is)
  have D_count_apart:L2.Def (L2.gx KX) mg (Str.ofString "count_apart") K23.b8:=by
   dsimp only[L2.gx]
   refine' L2.cM KX G ?a ?l ?c ?k
   (case a=>k_is);(case l=>k_is);(case c=>k_is);(case k=>k_is)
  have D_behind:L2.Def (L2.gx KX) mg (Str.ofString "behind") K23.e8:=by
   dsimp only[L2.gx]
   refine' L2.cM KX G ?a ?l ?c ?k
   (case a=>k_is);(case l=>k_is);(case c=>k_is);(case k=>k_is)
  have D_groups_left:L2.Def (L2.gx KX) mg (Str.ofString "groups_left") K23.b_:=by
   dsimp only[L2.gx]
   refine' L2.cM KX G ?a ?l ?c ?k
   (case a=>k_is);(case l=>k_is);(case c=>k_is);(case k=>k_is)
  have D_first_places:L2.Def (L2.gx KX) mg (Str.ofString "first_places") K23.bK:=by
   dsimp only[L2.gx]
   refine' L2.cM KX G ?a ?l ?c ?k
   (case a=>k_is);(case l=>k_is);(case c=>k_is);(case k=>k_is)
  have D_surest:L2.Def (L2.gx KX) mg (Str.ofString "surest") K23.eT:=by
   dsimp only[L2.gx]
   refine' L2.cM KX G ?a ?l ?c ?k
   (case a=>k_is);(case l=>k_is);(case c=>k_is);(case k=>k_is)
  have D_law_next:L2.Def (L2.gx KX) mg (Str.ofString "_law_next") K23.dE:=by
   dsimp only[L2.gx]
   refine' L2.cM KX G ?a ?l ?c ?k
   (case a=>k_is);(case l=>k_is);(case c=>k_is);(case k=>k_is)
  have D_law_pots:L2.Def (L2.gx KX) mg (Str.ofString "_law_pots") K23.dC:=by
   dsimp only[L2.gx]
   refine' L2.cM KX G ?a ?l ?c ?k
   (case a=>k_is);(case l=>k_is);(case c=>k_is);(case k=>k_is)
  have D_law_some_net:L2.Def (L2.gx KX) mg (Str.ofString "_law_some_net") K23.bO:=by
   dsimp only[L2.gx]
   refine' L2.cM KX G ?a ?l ?c ?k
   (case a=>k_is);(case l=>k_is);(case c=>k_is);(case k=>k_is)
  have D_law_turning:L2.Def (L2.gx KX) mg (Str.ofString "_law_turning") K23.cb:=by
   dsimp only[L2.gx]
   refine' L2.cM KX G ?a ?l ?c ?k
   (case a=>k_is);(case l=>k_is);(case c=>k_is);(case k=>k_is)
  have D_law:L2.Def (L2.gx KX) mg (Str.ofString "law") K23.nC:=by
   dsimp only[L2.gx]
   refine' L2.cM KX G ?a ?l ?c ?k
   (case a=>k_is);(case l=>k_is);(case c=>k_is);(case k=>k_is)
  obtain⟨cl,CF⟩:∃cl,K23.Cf (L2.gx KX) mg cl:=by
   dsimp only[L2.gx]
   refine' K23.He KX G ?aC0 ?pg0 ?hd0 ?po0 ?sa0 ?mk0 ?kc0 ?n0_net ?n0_many_inputs ?n0_full ?n0_in_masks ?aC1 ?pg1 ?hd1 ?po1 ?sa1 ?mk1 ?kc1 ?n1_bench ?n1_plain ?n1_unsure ?a_Bench___init__ ?i_Bench___init__ ?l_Bench___init__ ?dt ?k_Bench___init__ ?a_Bench_tells ?i_Bench_tells ?l_Bench_tells ?eE ?k_Bench_tells ?a_Bench_readings ?i_Bench_readings ?l_Bench_readings ?di ?k_Bench_readings ?a_Trial___init__ ?i_Trial___init__ ?l_Trial___init__ ?dq ?k_Trial___init__ ?a_Trial_breaks_at ?i_Trial_breaks_at ?l_Trial_breaks_at ?c6 ?k_Trial_breaks_at
   (case aC0=>k_is)
   (case pg0=>k_is)
   (case hd0=>k_is)
   (case po0=>k_is)
   (case sa0=>k_is)
   (case mk0=>k_is)
   (case kc0=>k_is)
   (case n0_net=>k_is)
   (case n0_many_inputs=>k_is)
   (case n0_full=>k_is)
   (case n0_in_masks=>k_is)
   (case aC1=>k_is)
   (case pg1=>k_is)
   (case hd1=>k_is)
   (case po1=>k_is)
   (case sa1=>k_is)
   (case mk1=>k_is)
   (case kc1=>k_is)
   (case n1_bench=>k_is)
   (case n1_plain=>k_is)
   (case n1_unsure=>k_is)
   (case a_Bench___init__=>k_is)
   (case i_Bench___init__=>k_is)
   (case l_Bench___init__=>k_is)
   (case dt=>k_is)
   (case k_Bench___init__=>k_is)
   (case a_Bench_tells=>k_is)
   (case i_Bench_tells=>k_is)
   (case l_Bench_tells=>k_is)
   (case eE=>k_is)
   (case k_Bench_tells=>k_is)
   (case a_Bench_readings=>k_is)
   (case i_Bench_readings=>k_is)
   (case l_Bench_readings=>k_is)
   (case di=>k_is)
   (case k_Bench_readings=>k_is)
   (case a_Trial___init__=>k_is)
   (case i_Trial___init__=>k_is)
   (case l_Trial___init__=>k_is)
   (case dq=>k_is)
   (case k_Trial___init__=>k_is)
   (case a_Trial_breaks_at=>k_is)
   (case i_Trial_breaks_at=>k_is)
   (case l_Trial_breaks_at=>k_is)
   (case c6=>k_is)
   (case k_Trial_breaks_at=>k_is)
  have D_Bench___init__:=CF.D_Bench___init__
  have D_Bench_tells:=CF.D_Bench_tells
  have D_Bench_readings:=CF.D_Bench_readings
  have D_Trial___init__:=CF.D_Trial___init__
  have D_Trial_breaks_at:=CF.D_Trial_breaks_at
  have T:K23.Tp (L2.gx KX) mg cl:=by
   dsimp only[L2.gx]
   refine' ⟨PySem.W.mg_none_of KX G ?z_enumerate,PySem.W.mg_none_of KX G ?z_range,PySem.W.mg_none_of KX G ?z_len,PySem.W.mg_none_of KX G ?z_tuple,PySem.W.mg_none_of KX G ?z_reversed,PySem.W.mg_none_of KX G ?z_all,PySem.W.mg_none_of KX G ?z_zip,PySem.W.mg_none_of KX G ?z_any,PySem.W.mg_none_of KX G ?z_min,PySem.W.mg_none_of KX G ?z_sorted,PySem.W.mg_none_of KX G ?z_list,PySem.W.mg_none_of KX G ?z_int,PySem.W.mg_none_of KX G ?z_isinstance,CF.C_Bench,CF.N_Bench_net,CF.N_Bench_many_inputs,CF.N_Bench_full,CF.N_Bench_in_masks,CF.M_Bench,CF.C_Trial,CF.N_Trial_bench,CF.N_Trial_plain,CF.N_Trial_unsure,CF.M_Trial⟩
   (case z_enumerate=>k_is);(case z_range=>k_is);(case z_len=>k_is);(case z_tuple=>k_is);(case z_reversed=>k_is);(case z_all=>k_is);(case z_zip=>k_is);(case z_any=>k_is);(case z_min=>k_is);(case z_sorted=>k_is);(case z_list=>k_is);(case z_int=>k_is);(case z_isinstance=>k_is)
  obtain⟨fl,fd,Fl,hl⟩:=D_law
  have e0:=hmg.symm.trans hl
  cases e0
  refine' ⟨fd,?b,fun base kb nb=>K23.GA T D_vote_of D_gate_mask D_in_wire_masks D_masks_at D_wire_masks D_out_masks D_reading D_all_inputs D_mask_of D_in_mask D_choices D_has_all D_Bench___init__ D_Bench_tells D_Bench_readings D_Trial___init__ D_Trial_breaks_at D_breaking D_count_apart D_behind D_groups_left D_first_places D_surest D_law_next D_law_pots D_law_some_net D_law_turning Fl⟩
  obtain⟨_,_,_,_,_,_,_,_,_,e,_,_⟩:=Fl.ex
  subst e
  exact fun s u=> .of_eq rfl
