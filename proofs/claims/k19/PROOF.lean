import PyProof.Rows.All
import Wide.All
import OpenK.AllK
import Wide.FinOn
import Lean
import PyProof.EqAt
import PyProof.EqKinds
import PyProof.TupleCall
import PyProof.Rows.StrJoin2
import PyProof.TupleOfGen
import PyProof.ListRange
import PyProof.Draws
import PyProof.Rows.StrClose3
import KE.KSortedM
import PyProof.Rows.SortWalk
import PyProof.WalkInts
import PyProof.Rows.Range3
import PyProof.ZipIter
import PyProof.ConsumeWalk
import PyProof.Rows.SeqMore
import KE.KRevIter
import KE.KRevSl
import KE.KUnpack
import PySem.Challenge.RW_bearfaults_k19_whole_one_gate_and_matter
noncomputable section
set_option bootstrap.genMatcherCode false
def PySem.W.Fast.tw14226218587721110873:=0
def PySem.W.Fast.tw6625097723911955323:=0
def PySem.W.Fast.tw8075824935432803540:=0
def PySem.W.Fast.tw11178360812558247909:=0
def PySem.W.Fast.tw2544158154194023400:=0
def PySem.W.Fast.tw6466604334238379218:=0
def PySem.W.Fast.tw5100286795044902192:=0
def PySem.W.Fast.tw7033252123535968221:=0
def PySem.W.Fast.tw16443810308666010736:=0
def PySem.W.Fast.tw7729961908650487109:=0
def PySem.W.Fast.tw1110947846761605385:=0
def PySem.W.Fast.tw18200449535548457545:=0
def PySem.W.Fast.tw10349781398760969416:=0
def PySem.W.Fast.tw5515340141195701307:=0
def PySem.W.Fast.tw3755130915493535602:=0
def PySem.W.Fast.tw16578473821333712301:=0
def PySem.W.Fast.tw12568856918127526550:=0
def PySem.W.Fast.tw13553080835187267464:=0
def PySem.W.Fast.tw9572900485877862901:=0
def PySem.W.Fast.tw15485122055527835677:=0
def PySem.W.Fast.tw16197835013666674335:=0
def PySem.W.Fast.tw12067323244712756454:=0
def PySem.W.Fast.tw18163309147731852598:=0
def PySem.W.Fast.tw11884809564012104368:=0
def PySem.W.Fast.tw443996321109334534:=0
def PySem.W.Fast.tw18124967319449914947:=0
def PySem.W.Fast.tw11409626099464856969:=0
def PySem.W.Fast.tw2715072761164387940:=0
def PySem.W.Fast.tw13723962991334422326:=0
def PySem.W.Fast.tw11659301646153184380:=0
def PySem.W.Fast.tw11864873647204717621:=0
def PySem.W.Fast.tw14489526778420539114:=0
def PySem.W.Fast.tw16942785959910851071:=0
def PySem.W.Fast.tw15147306191894128160:=0
def PySem.W.Fast.tw14135681415488569195:=0
def PySem.W.Fast.tw13753473831622145769:=0
def PySem.W.Fast.tw14284592035404521224:=0
def PySem.W.Fast.tw9921540984590088757:=0
def PySem.W.Fast.tw2571919190790856132:=0
def PySem.W.Fast.tw11222034783803961748:=0
set_option Elab.async false
set_option linter.all false
set_option maxRecDepth 100000
set_option maxHeartbeats 4000000
section
set_option maxRecDepth 100000
namespace L2
open PySem PySem.Spec PyProof.Rows
noncomputable abbrev Key:=Sum Int Str
noncomputable def rS:Key→Value→Bool
 | .inl k,v=>Value.isInt k v
 | .inr x,v=>Value.isStrOf x v
noncomputable def Ji(w:World):Key→Int
 | .inl k=>hashInt k
 | .inr x=>hashStr w x
theorem dq:∀{k:Key} {v:Value},rS k v=true→(∃i t,k=Sum.inl i∧v=Value.int i t)∨(∃x t,k=Sum.inr x∧v=Value.str x t)
 | .inl i,v,h=>by
   obtain⟨t,e⟩:=Value.isInt_shape (k:=i) (v:=v) h
   exact .inl ⟨i,t,rfl,e⟩
 | .inr x,v,h=>by
   obtain⟨t,e⟩:=Value.isStrOf_shape (x:=x) (v:=v) h
   exact .inr ⟨x,t,rfl,e⟩
theorem y4(i:Int)(t:Tok):rS (.inl i) (.int i t)=true:=by simp [rS,Value.isInt]
theorem zA(x:Str)(t:Tok):rS (.inr x) (.str x t)=true:=by simp [rS,Value.isStrOf]
theorem FJ(a b:Int):decide ((Sum.inl a:Key)=Sum.inl b)=(a==b):=by
 by_cases e:a=b
 ·subst e;simp
 ·have h:¬(Sum.inl a:Key)=Sum.inl b:=fun q=>e (Sum.inl.inj q)
  rw[decide_eq_false h]
  exact(beq_eq_false_iff_ne.mpr e).symm
theorem EE(a b:Str):decide ((Sum.inr a:Key)=Sum.inr b)=decide (a=b):=by
 by_cases e:a=b
 ·subst e;simp
 ·have h:¬(Sum.inr a:Key)=Sum.inr b:=fun q=>e (Sum.inr.inj q)
  rw[decide_eq_false h,decide_eq_false e]
theorem GS(a:Int)(b:Str):decide ((Sum.inl a:Key)=Sum.inr b)=false:=decide_eq_false (fun q=>nomatch q)
theorem Gb(a:Str)(b:Int):decide ((Sum.inr a:Key)=Sum.inl b)=false:=decide_eq_false (fun q=>nomatch q)
noncomputable def dr(prog:Program)(w:World):PySem.KeyKind prog w Key where
 is:=rS
 hash:=Ji w
 inj:=fun v a b ha hb=>by
  rcases dq ha with⟨i,t,rfl,rfl⟩ | ⟨x,t,rfl,rfl⟩
  ·rcases dq hb with⟨j,u,rfl,e⟩ | ⟨y,u,rfl,e⟩
   ·injection e with e1 _;rw [e1]
   ·exact nomatch e
  ·rcases dq hb with⟨j,u,rfl,e⟩ | ⟨y,u,rfl,e⟩
   ·exact nomatch e
   ·injection e with e1 _;rw [e1]
 byValue:=fun k v h=>by
  rcases dq h with⟨i,t,rfl,rfl⟩ | ⟨x,t,rfl,rfl⟩ <;> rfl
 pyHash:=fun hv h=>by
  rcases dq hv with⟨i,t,rfl,rfl⟩ | ⟨x,t,rfl,rfl⟩
  ·exact wpAny_pyHash_int h
  ·exact wpAny_pyHash_str h
 eqBool:=fun hu hv h=>by
  rcases dq hu with⟨i,t,rfl,rfl⟩ | ⟨x,t,rfl,rfl⟩
  ·rcases dq hv with⟨j,u,rfl,rfl⟩ | ⟨y,u,rfl,rfl⟩
   ·rw[FJ] at h;exact wpAny_eqBool_int h
   ·rw[GS] at h;exact SeqAt.EqAt.int_str i t y u _ _ _ _ h
  ·rcases dq hv with⟨j,u,rfl,rfl⟩ | ⟨y,u,rfl,rfl⟩
   ·rw[Gb] at h;exact SeqAt.EqAt.str_int x t j u _ _ _ _ h
   ·rw[EE] at h;exact wpAny_eqBool_str h
 «strs»:=fun k x t v h=>by
  rcases dq h with⟨i,u,rfl,e⟩ | ⟨y,u,rfl,e⟩
  ·exact nomatch e
  ·injection e with e1 _
   subst e1
   cases v <;> rfl
theorem vp(prog:Program)(w:World)(i:Int)(t:Tok):(dr prog w).is (.inl i) (.int i t)=true:=y4 i t
theorem uT(prog:Program)(w:World)(x:Str)(t:Tok):(dr prog w).is (.inr x) (.str x t)=true:=zA x t
end L2
namespace L2
open PySem PySem.Spec PyProof.Rows
inductive V where
 | cS | bl (b:Bool) | int (i:Int) | str (x:Str) | byt (b:Array UInt8) | flt (b:UInt64) | ref (a:Addr) | ty (n:String)
 deriving DecidableEq
noncomputable def RelV:V→Value→Prop
 | .cS,u=>u=Value.none
 | .bl b,u=>u=Value.bool b
 | .int i,u=>∃t,u=Value.int i t
 | .str x,u=>∃t,u=Value.str x t
 | .byt b,u=>∃t,u=Value.bytes b t
 | .flt b,u=>∃t,u=Value.float b t
 | .ref a,u=>u=Value.ref a
 | .ty n,u=>u=Value.type n
noncomputable abbrev Vals:List V→List Value→Prop:=Paired RelV
theorem Vals.length{xs:List V}{us:List Value}(r:Vals xs us):xs.length=us.length:=Paired.length r
theorem Vals.get:∀{xs:List V} {us:List Value} {i:Nat} {x:V},Vals xs us→xs[i]? =some x→∃u,us[i]? =some u∧RelV x u
 | _,_,_,_, .nil,e=>by simp at e
 | _,_,0,_, .cons r _,e=>by simp at e;subst e;exact⟨_,rfl,r⟩
 | _,_,i+1,x, .cons _ t,e=>by
   obtain⟨u,h1,h2⟩:=Vals.get (i:=i) (x:=x) t (by simpa using e)
   exact⟨u,by simpa using h1,h2⟩
theorem Vals.set{x:V}{u:Value}(r:RelV x u):∀{xs:List V} {us:List Value} (i:Nat),Vals xs us→Vals (xs.set i x) (us.set i u)
 | _,_,_, .nil=> .nil
 | _,_,0, .cons _ t=> .cons r t
 | _,_,i+1, .cons q t=> .cons q (Vals.set r i t)
theorem Vals.append:∀{xs ys:List V} {us ws:List Value},Vals xs us→Vals ys ws→Vals (xs++ys) (us++ws)
 | _,_,_,_, .nil,s=>s
 | _,_,_,_, .cons r t,s=> .cons r (Vals.append t s)
theorem Vals.take:∀{xs:List V} {us:List Value} (n:Nat),Vals xs us→Vals (xs.take n) (us.take n)
 | _,_,0,_=> .nil
 | _,_,_+1, .nil=> .nil
 | _,_,n+1, .cons r t=> .cons r (Vals.take n t)
theorem Vals.drop:∀{xs:List V} {us:List Value} (n:Nat),Vals xs us→Vals (xs.drop n) (us.drop n)
 | _,_,0,r=>r
 | _,_,_+1, .nil=> .nil
 | _,_,n+1, .cons _ t=>Vals.drop n t
noncomputable def nM:Option V→Option Value→Prop
 | some v,some u=>RelV v u
 | none,none=>True
 | _,_=>False
noncomputable def KV{κ:Type}:List (κ × V)→List (κ × Value)→Prop:=Paired fun(p:κ × V) (q:κ × Value)=>p.1=q.1∧RelV p.2 q.2
noncomputable def kV:Key→V
 | .inl i=> .int i
 | .inr x=> .str x
inductive HO where
 | lst (xs:List V)
 | tup (xs:List V)
 | dK (kvs:List (Key × V)) | dT (kvs:List (List Key × V))
 | set (S:Int→Bool) (n:Nat)
 | ins (C dx:Addr) (fs:List (Str × V))
 | own (x:Addr)
 | xd (fs:List (Str × V))
 | met (f x:Addr)
 | rng (lo hi:Int)
 | iS (o:Obj) (u:HO)
 | tbl (ps:Array Value)
 | ext (φ:Heap→Prop)
noncomputable abbrev Hp:=Addr→Option HO
noncomputable def upd(H:Hp)(a:Addr)(o:HO):Hp:=fun b=>if b=a then some o else H b
theorem bc{H:Hp}{a:Addr}{o:HO}:upd H a o a=some o:=by unfold upd;rw [if_pos rfl]
theorem bf{H:Hp}{a b:Addr}{o:HO}(h:b≠a):upd H a o b=H b:=by unfold upd;rw [if_neg h]
theorem DS{H:Hp}{a:Addr}{o u:HO}:upd (upd H a o) a u=upd H a u:=by
 funext b;unfold upd;split <;> rfl
theorem cu{H:Hp}{a b:Addr}{o:HO}(h:H a=some o)(h':H b=none):a≠b:=by
 intro e;subst e;rw [h] at h';cases h'
section
variable (P:Program) (w:World)
noncomputable def fj(H:Hp)(h:Heap)(a:Addr):HO→Prop
 | .lst xs=>xs.length≤sizeLine∧∃(its:List Value) (n:Nat),Vals xs its∧h.get? a=some {cls:= .type "list",data:= .seq its.toArray n}
 | .tup xs=>xs.length≤sizeLine∧∃its:List Value,Vals xs its∧IsTup h a its.toArray
 | .dK kvs=>kvs.length≤sizeLine∧(a==sysModules)=false∧∃vs,KV kvs vs∧h.DictOf (dr P w) a vs
 | .dT kvs=>kvs.length≤sizeLine∧(a==sysModules)=false∧∃xs:List (List Key × Addr × Value),
    Paired (fun(p:List Key × V) (q:List Key × Addr × Value)=>p.1=q.1∧H q.2.1=some (.tup (p.1.map kV))∧RelV p.2 q.2.2) kvs xs∧
    ∃o es ep,h.get? a=some o∧o.ExactDict∧o.data= .dict es ep∧es.toList=xs.map (entryOfKey (tupleKind (dr P w)))∧(xs.map (·.1)).Nodup
 | .set S n=>h.SetOf (intKind P w) a S n
 | .ins C dx fs=>H dx=some (.own a)∧fs.length≤1000∧dx≠a∧h.get? a=some (PySem.W.instObj C dx)∧
    ∃mA,h.Ns1 dx mA∧(∀f,nM (fs.lookup f) (mA f))∧PySem.Within mA (fs.map (·.1))
 | .own _=>∃o,h.get? a=some o
 | .xd fs=>∃mA,h.Ns1 a mA∧∀f,nM (fs.lookup f) (mA f)
 | .rng lo hi=>∃t u v,h.get? a=some {cls:= .type "range",data:= .fields #[.int lo t, .int hi u, .int 1 v]}
 | .iS o u=>h.get? a=some o∧fj H h a u
 | .tbl ps=>h.get? a=some {cls:= .none,data:= .fields ps}
 | .met f x=>h.get? a=some (PySem.W.methodObj (.ref f) (.ref x))
 | .ext φ=>φ h∧(∃o,h.get? a=some o)∧∀h1 h2:Heap,φ h1→(∀o,h1.get? a=some o→h2.get? a=some o)→φ h2
noncomputable def lX(H:Hp)(h:Heap):Prop:=∀a o,H a=some o→fj P w H h a o
end
section
variable {P:Program} {w:World} {H H':Hp} {h h':Heap} {a:Addr} {o:HO}
theorem fj.lt(x:fj P w H h a o):a < h.objs.size:=by
 cases o with
 | lst xs=>obtain⟨_,_,_,_,e⟩:=x;exact Heap.lt_size e
 | tup xs=>obtain⟨_,_,_,p⟩:=x;exact p.lt
 | dK kvs=>obtain⟨_,_,_,_,o,_,_,e,_⟩:=x;exact Heap.lt_size e
 | dT kvs=>obtain⟨_,_,_,_,o,_,_,e,_⟩:=x;exact Heap.lt_size e
 | set S n=>obtain⟨o,_,_,_,e,_⟩:=x;exact Heap.lt_size e
 | ins C dx fs=>obtain⟨_,_,_,e,_⟩:=x;exact Heap.lt_size e
 | own y=>obtain⟨_,e⟩:=x;exact Heap.lt_size e
 | xd fs=>obtain⟨_,⟨_,_,_,e,_⟩,_⟩:=x;exact Heap.lt_size e
 | rng lo hi=>obtain⟨_,_,_,e⟩:=x;exact Heap.lt_size e
 | iS ob u=>obtain⟨e,_⟩:=x;exact Heap.lt_size e
 | tbl ps=>exact Heap.lt_size (show h.get? a=some _ from x)
 | met f y=>exact Heap.lt_size (show h.get? a=some _ from x)
 | ext φ=>obtain⟨_,⟨_,e⟩,_⟩:=x;exact Heap.lt_size e
theorem Paired.HY{α β:Type}{F G:α→β→Prop}:∀{l₁:List α} {l₂:List β},Paired F l₁ l₂→(∀a b,F a b→G a b)→Paired G l₁ l₂
 | _,_, .nil,_=> .nil
 | _,_, .cons r t,f=> .cons (f _ _ r) (Paired.HY t f)
theorem fj.sZ(x:fj P w H h a o)(k:∀b u,(b=a∨H b=some (.own a))→h.get? b=some u→h'.get? b=some u)
 (ho:∀b,H b=some (.own a)→H' b=some (.own a)) (ht:∀b xs,H b=some (.tup xs)→H' b=some (.tup xs)):fj P w H' h' a o:=by
 induction o with
 | lst xs=>obtain⟨z,its,n,r,e⟩:=x;exact⟨z,its,n,r,k _ _ (.inl rfl) e⟩
 | tup xs=>obtain⟨z,its,r,ob,e,c⟩:=x;exact⟨z,its,r,ob,k _ _ (.inl rfl) e,c⟩
 | dK kvs=>obtain⟨z,y,vs,r,ob,es,ep,e,c⟩:=x;exact⟨z,y,vs,r,ob,es,ep,k _ _ (.inl rfl) e,c⟩
 | dT kvs=>
   obtain⟨z,y,xs,r,ob,es,ep,e,c⟩:=x
   exact⟨z,y,xs,Paired.HY r fun p q z=>⟨z.1,ht _ _ z.2.1,z.2.2⟩,ob,es,ep,k _ _ (.inl rfl) e,c⟩
 | set S n=>obtain⟨ob,es,ep,t,e,c⟩:=x;exact⟨ob,es,ep,t,k _ _ (.inl rfl) e,c⟩
 | ins C dx fs=>
   obtain⟨d,z,ne,e,mA,⟨od,es,ep,e2,c⟩,r⟩:=x
   exact⟨ho _ d,z,ne,k _ _ (.inl rfl) e,mA,⟨od,es,ep,k _ _ (.inr d) e2,c⟩,r⟩
 | own y=>obtain⟨ob,e⟩:=x;exact⟨ob,k _ _ (.inl rfl) e⟩
 | xd fs=>obtain⟨mA,⟨od,es,ep,e,c⟩,r⟩:=x;exact⟨mA,⟨od,es,ep,k _ _ (.inl rfl) e,c⟩,r⟩
 | rng lo hi=>obtain⟨t,u,v,e⟩:=x;exact⟨t,u,v,k _ _ (.inl rfl) e⟩
 | iS ob u ih=>obtain⟨e,q⟩:=x;exact⟨k _ _ (.inl rfl) e,ih q⟩
 | tbl ps=>
   have e:h.get? a=some {cls:= .none,data:= .fields ps}:=x
   show h'.get? a=some {cls:= .none,data:= .fields ps}
   exact k a _ (.inl rfl) e
 | met f y=>
   have e:h.get? a=some (PySem.W.methodObj (.ref f) (.ref y)):=x
   show h'.get? a=some (PySem.W.methodObj (.ref f) (.ref y))
   exact k a _ (.inl rfl) e
 | ext φ=>obtain⟨p,⟨o,e⟩,st⟩:=x;exact⟨st _ _ p fun o q=>k _ _ (.inl rfl) q,⟨o,k _ _ (.inl rfl) e⟩,st⟩
theorem lX.lt(x:lX P w H h)(e:H a=some o):a < h.objs.size:=(x a o e).lt
theorem lX.fresh(x:lX P w H h)(e:h.objs.size≤a):H a=none:=by
 cases q:H a with
 | none=>rfl
 | some u=>exact absurd (Nat.lt_of_lt_of_le (x.lt q) e) (Nat.lt_irrefl _)
theorem lX.kept(x:lX P w H h)(k:∀b u,h.get? b=some u→h'.get? b=some u):lX P w H h':=fun a o e=>
 (x a o e).sZ (fun b u _ q=>k b u q) (fun _ q=>q) fun _ _ q=>q
theorem lX.laid(x:lX P w H h)(k:∀b u,h.get? b=some u→h'.get? b=some u)(hp:h.objs.size≤a)(new:fj P w (upd H a o) h' a o):lX P w (upd H a o) h':=fun b u e=>by
 have hn:=x.fresh hp
 by_cases hb:b=a
 ·subst hb;rw [bc] at e;cases e;exact new
 ·rw[bf hb] at e
  exact(x b u e).sZ (fun c v _ q=>k c v q) (fun c q=>by rw[bf (cu q hn)];exact q) fun c xs q=>by rw[bf (cu q hn)];exact q
end
noncomputable def Rd(H:Hp)(a:Addr)(u:HO):Prop:=H a=some u∨∃o,H a=some (.iS o u)
theorem Rd.ok{P:Program}{w:World}{H:Hp}{h:Heap}{a:Addr}{u:HO}(r:Rd H a u)(x:lX P w H h):fj P w H h a u:=by
 rcases r with r | ⟨o,r⟩
 ·exact x a u r
 ·obtain⟨_,q⟩:=x a _ r
  exact q
noncomputable def Ha:Option HO→Prop
 | some (.lst _)=>True
 | some (.dK _)=>True
 | some (.dT _)=>True
 | some (.set _ _)=>True
 | some (.ins _ _ _)=>True
 | some (.ext _)=>True
 | _=>False
section
variable {P:Program} {w:World} {H:Hp} {h h':Heap} {x e:Addr} {o':HO}
theorem lX.write(ok:lX P w H h)(mu:Ha (H x))(he:e=x∨H e=some (.own x))(k:∀b u,b≠e→h.get? b=some u→h'.get? b=some u)(heo:∃u,h'.get? e=some u)
 (new:fj P w (upd H x o') h' x o'):lX P w (upd H x o') h':=fun b u q=>by
 have nown:∀c y,H c=some (.own y)→c≠x:=fun c y r z=>by subst z;rw [r] at mu;exact mu
 have ntup:∀c xs,H c=some (.tup xs)→c≠x:=fun c xs r z=>by subst z;rw [r] at mu;exact mu
 by_cases hb:b=x
 ·subst hb;rw [bc] at q;cases q;exact new
 ·rw[bf hb] at q
  by_cases hbe:b=e
  ·have q':H b=some (.own x):=by
    rcases he with z | z
    ·exact absurd (hbe.trans z) hb
    ·rw[hbe];exact z
   rw[q] at q';cases q'
   obtain⟨v,hv⟩:=heo
   exact⟨v,by rw[hbe];exact hv⟩
  ·refine(ok b u q).sZ (fun c v hc r=>k c v ?_ r) (fun c r=>by rw[bf (nown c b r)];exact r) fun c xs r=>by rw[bf (ntup c xs r)];exact r
   rcases hc with rfl | hc
   ·exact hbe
   ·rintro rfl
    rcases he with z | z
    ·exact nown c b hc z
    ·rw[hc] at z;cases z;exact hb rfl
end
structure Un (fs ex:List Addr) (H H':Hp) (h h':Heap):Prop where
 keep:∀b o,h.get? b=some o→H b=none→b ∉ fs→b ∉ ex→h'.get? b=some o
 slot:∀b o,h.get? b=some o→H b=none→b∈fs→b ∉ ex→∃sl,h'.get? b=some {o with slots:=sl}
 free:∀b o,h.get? b=some o→H b=none→b ∉ ex→H' b=none
 there:∀b o,h.get? b=some o→b ∉ ex→∃o',h'.get? b=some o'
 tups:∀b xs,H b=some (.tup xs)→H' b=some (.tup xs)
 frzs:∀b o u,H b=some (.iS o u)→H' b=some (.iS o u)
 tbls:∀b ps,H b=some (.tbl ps)→∃more,H' b=some (.tbl (ps++more))
section
variable {fs fs' ex ex':List Addr} {H H1 H2:Hp} {h h1 h2 h':Heap} {a x e:Addr} {o:HO}
theorem Un.any(u:Un fs ex H H1 h h1){b:Addr}{ob:Obj}(q:h.get? b=some ob)(n:H b=none)(hx:b ∉ ex):∃sl,h1.get? b=some {ob with slots:=sl}:=by
 by_cases hb:b∈fs
 ·exact u.slot b ob q n hb hx
 ·exact⟨ob.slots,u.keep b ob q n hb hx⟩
theorem Un.kept(k:∀b u,h.get? b=some u→h'.get? b=some u):Un fs ex H H h h':=
 ⟨fun b ob q _ _ _=>k b ob q,fun b ob q _ _ _=>⟨ob.slots,k b ob q⟩,fun _ _ _ n _=>n,fun b ob q _=>⟨ob,k b ob q⟩,fun _ _ q=>q,fun _ _ _ q=>q,fun _ ps q=>⟨#[],by rw[q];simp⟩⟩
theorem Un.refl:Un fs ex H H h h:=Un.kept fun _ _ q=>q
theorem Un.laid(k:∀b u,h.get? b=some u→h'.get? b=some u)(hp:h.objs.size≤a)(hn:H a=none):Un fs ex H (upd H a o) h h' where
 keep:=fun b u q _ _ _=>k b u q
 slot:=fun b u q _ _ _=>⟨u.slots,k b u q⟩
 free:=fun b u q n _=>by rw[bf (Nat.ne_of_lt (Nat.lt_of_lt_of_le (Heap.lt_size q) hp))];exact n
 there:=fun b u q _=>⟨u,k b u q⟩
 tups:=fun b xs q=>by rw[bf (cu q hn)];exact q
 frzs:=fun b u xs q=>by rw[bf (cu q hn)];exact q
 tbls:=fun b ps q=>⟨#[],by rw[bf (cu q hn),q];simp⟩
theorem Un.write(mu:Ha (H x))(he:e=x∨H e=some (.own x))(k:∀b u,b≠e→h.get? b=some u→h'.get? b=some u)(heo:∃u,h'.get? e=some u):Un fs ex H (upd H x o) h h':=by
 have hx:∀b,H b=none→b≠x:=fun b n z=>by subst z;rw [n] at mu;exact mu
 have hb:∀b,H b=none→b≠e:=fun b n z=>by
  subst z
  rcases he with r | r
  ·exact hx b n r
  ·rw[n] at r;cases r
 have hm:∀b u,H b=some u→¬Ha (some u)→b≠x:=fun b u q nm z=>by subst z;rw [q] at mu;exact nm mu
 refine⟨fun b u q n _ _=>k b u (hb b n) q,fun b u q n _ _=>⟨u.slots,k b u (hb b n) q⟩,fun b u q n _=>by rw[bf (hx b n)];exact n,fun b u q _=>?_,
  fun b xs q=>by rw[bf (hm b _ q fun z=>z)];exact q,fun b u xs q=>by rw[bf (hm b _ q fun z=>z)];exact q,fun b ps q=>⟨#[],by rw[bf (hm b _ q fun z=>z),q];simp⟩⟩
 by_cases hbe:b=e
 ·subst hbe;exact heo
 ·exact⟨u,k b u hbe q⟩
end
noncomputable def IJ(h:Heap)(H:Hp):List Addr:=(List.range h.objs.size).filter fun a=>(H a).isSome
noncomputable def t8(h:Heap)(H:Hp):Heap:=PySem.W.hideAll h (IJ h H)
theorem yP(h:Heap)(H:Hp):(t8 h H).objs.size=h.objs.size:=PySem.W.hideAll_size _ _
theorem Cj{h:Heap}{H:Hp}{b:Addr}{o:Obj}(e:h.get? b=some o)(n:H b=none):(t8 h H).get? b=some o:=
 PySem.W.hideAll_get _ e fun hm=>by
  have q:(H b).isSome=true:=(List.mem_filter.mp hm).2
  rw[n] at q;simp at q
theorem CK{h:Heap}{H:Hp}{b:Addr}{o:Obj}(e:(t8 h H).get? b=some o):h.get? b=some o∧H b=none:=by
 have e':h.get? b=some o:=PySem.W.of_hideAll (IJ h H) e
 refine⟨e',?_⟩
 cases q:H b with
 | none=>rfl
 | some x=>
   have hm:b∈IJ h H:=List.mem_filter.mpr ⟨List.mem_range.mpr (Heap.lt_size e'),by simp [q]⟩
   have z:(t8 h H).get? b=none:=PySem.W.hideAll_none (IJ h H) hm
   rw[z] at e;cases e
noncomputable def CN(g h:Heap)(L:Addr):List (Addr × Obj):=(List.range h.objs.size).filterMap fun a=>if a=L∨(g.get? a).isSome=true then none else(h.get? a).map fun o=>(a,o)
noncomputable def rest(g h:Heap)(L d:Addr):List (Addr × Obj):=(CN g h L).filter fun p=>decide (p.1≠d)
end L2
namespace L2
open PySem PySem.Spec PyProof.Rows
structure Mod (K:PySem.W.Frag) (mg:Str→Option Value) (base:Heap):Prop where
 kin:K.In base
 glob:base.Ns mainGlobals mg
 blt:∃mb,base.Ns builtinsNs mb∧∀x:Str,x≠"__name__"→mb x=bootBuiltins x
 nolimit:base.NoLimit
structure Cx where
 prog:Program
 w:World
 K:PySem.W.Frag
 mg:Str→Option Value
 base:Heap
 A:Around
 N:List Str
 s₀:Shared
 H₀:Hp
 env:Env
 outer:List Env
 stack:List Env
 ex:List Addr
 fn:Str→Bool
 calm:Bool
 pn:List (Addr × Obj)
 xe:Value→Shared→Prop
noncomputable def zP(l:List Env):List Addr:=l.filterMap (·.frame)
noncomputable abbrev Cx.fs(X:Cx):List Addr:=zP X.outer
noncomputable def Ei(sc:Scope)(x:Str):Prop:=sc.names.lookup x=some .local∨sc.names.lookup x=some .cell∨sc.names.lookup x=some .free
noncomputable def Loc(sc:Scope)(x:Str):Prop:=sc.names.lookup x=some .local∨sc.names.lookup x=some .cell
noncomputable def Look(env:Env)(h:Heap)(m:Str→Option Value)(x:Str)(u:Value):Prop:=
 (env.kindOf x=some .local∧m x=some u)∨((env.kindOf x=some .cell∨env.kindOf x=some .free)∧∃c,env.cells.lookup x=some c∧h.IsCell c (some u))
structure Cx.Ok (X:Cx):Prop where
 mod:Mod X.K X.mg X.base
 kind:X.env.scope.kind= .function
 glob:X.env.globals=mainGlobals
 blt:X.env.builtins=builtinsNs
 above:X.s₀.heap.objs.size≤X.env.locals
 inj:∀x y c,X.env.cells.lookup x=some c→X.env.cells.lookup y=some c→x=y
 has:∀x,(X.env.kindOf x=some .cell∨X.env.kindOf x=some .free)→∃c,X.env.cells.lookup x=some c
 cab:∀x c,X.fn x=true→X.env.cells.lookup x=some c→X.s₀.heap.objs.size≤c
 hd:X.calm=true→X.A.handled=none
 frames:X.A.frames=some X.stack
 stk:X.stack=X.outer∨(X.stack=X.env ::X.outer∧X.env.frame=some X.env.locals)
 exf:∀b∈X.ex,b≠X.env.locals∧∀x c,X.env.cells.lookup x=some c→c≠b
 bs:∀b o,X.base.get? b=some o→X.s₀.heap.get? b=some o∧X.H₀ b=none
 bsz:X.base.objs.size≤X.s₀.heap.objs.size
 noex:∀b o,X.base.get? b=some o→b ∉ X.ex
 exfs:∀b∈X.ex,b ∉ X.fs
 pe:X.s₀.heap.FunFrames X.base X.outer
 frf:∀b∈X.fs,X.H₀ b=none
structure Inv (X:Cx) (pins:List (Addr × Obj)) (σ:List (Option V)) (H:Hp) (s:Shared):Prop where
 ok:X.Ok
 os:s.os=X.s₀.os
 bare:AllBare s.gens
 base:Un X.fs X.ex X.H₀ H X.s₀.heap s.heap
 loc:∃m,s.heap.Ns X.env.locals m∧∀(i:Nat) (x:Str) (v:V),X.N[i]? =some x→σ[i]? =some (some v)→Ei X.env.scope x→∃u,RelV v u∧Look X.env s.heap m x u
 cell:∀x c,X.env.cells.lookup x=some c→∃v,s.heap.IsCell c v
 free:H X.env.locals=none
 freeC:∀x c,X.env.cells.lookup x=some c→H c=none
 pin:∀p∈X.pn++pins,s.heap.get? p.1=some p.2∧H p.1=none∧p.1≠X.env.locals∧p.1 ∉ X.fs∧∀v,p.2.data≠ .cell v
 hok:lX X.prog X.w H s.heap
 len:σ.length=X.N.length
section
variable {X:Cx} {pins:List (Addr × Obj)} {σ:List (Option V)} {H H':Hp} {s:Shared} {h':Heap}
theorem Cx.Ok.I_(ok:X.Ok){b:Addr}{o:Obj}(e:X.base.get? b=some o):b ∉ X.fs:=fun hb=>by
 have:=(ok.pe.mem hb).1
 rw[e] at this;cases this
theorem Inv.bs(I:Inv X pins σ H s):∀b o,X.base.get? b=some o→s.heap.get? b=some o∧H b=none:=fun b o e=>
 ⟨I.base.keep b o (I.ok.bs b o e).1 (I.ok.bs b o e).2 (I.ok.I_ e) (I.ok.noex b o e),I.base.free b o (I.ok.bs b o e).1 (I.ok.bs b o e).2 (I.ok.noex b o e)⟩
theorem Inv.bk(I:Inv X pins σ H s):∀b o,X.base.get? b=some o→s.heap.get? b=some o:=fun b o e=>(I.bs b o e).1
theorem Inv.mod(I:Inv X pins σ H s):Mod X.K X.mg X.base:=I.ok.mod
theorem Inv.xE(I:Inv X pins σ H s):X.K.In s.heap:=I.ok.mod.kin.keeps I.bk
theorem Inv.lt(I:Inv X pins σ H s):X.env.locals < s.heap.objs.size:=let⟨_,hn,_⟩:=I.loc;hn.lt
theorem Inv.sz(I:Inv X pins σ H s):X.s₀.heap.objs.size≤s.heap.objs.size:=Nat.le_trans I.ok.above (Nat.le_of_lt I.lt)
theorem Inv.Jo(I:Inv X pins σ H s){a:Addr}(h:s.heap.objs.size≤a):a ∉ X.fs:=fun hb=>by
 obtain⟨_,o,ho,_⟩:=I.ok.pe.mem hb
 exact absurd (Nat.lt_of_lt_of_le (Heap.lt_size ho) (Nat.le_trans I.sz h)) (Nat.lt_irrefl _)
theorem Inv.GH(I:Inv X pins σ H s):∀x c,X.env.cells.lookup x=some c→c≠X.env.locals:=fun x c e z=>by
 obtain⟨v,o,ho,hd⟩:=I.cell x c e
 obtain⟨m,⟨o',es,ep,ho',hd',_⟩,_⟩:=I.loc
 rw[z,ho'] at ho;cases ho;rw [hd'] at hd;cases hd
theorem Inv.pe(I:Inv X pins σ H s):s.heap.FunFrames X.base X.outer:=by
 have all:∀(l:List Env),(∀b∈zP l,b∈X.fs)→X.s₀.heap.FunFrames X.base l→s.heap.FunFrames X.base l:=by
  intro l
  induction l with
  | nil=>intro _ _;trivial
  | cons env r ih=>
    intro hs hl
    obtain⟨hk,⟨L,o,hf,hn,ho,hd⟩,hr⟩:=hl
    have hL:L∈X.fs:=hs L (by unfold zP;rw [List.filterMap_cons,hf];exact List.mem_cons_self)
    obtain⟨sl,e⟩:=I.base.slot L o ho (I.ok.frf L hL) hL fun z=>I.ok.exfs L z hL
    exact⟨hk,⟨L,_,hf,hn,e,hd⟩,ih (fun b hb=>hs b (by unfold zP;rw [List.filterMap_cons,hf];exact List.mem_cons_of_mem _ hb)) hr⟩
 exact all X.outer (fun _ hb=>hb) I.ok.pe
theorem Inv.stack(I:Inv X pins σ H s):s.heap.FunFrames X.base X.stack:=by
 rcases I.ok.stk with e | ⟨e,hf⟩
 ·rw[e];exact I.pe
 ·rw[e]
  obtain⟨m,hn,_⟩:=I.loc
  refine .cons (by rw[I.ok.kind];decide) hf hn ?_ I.pe
  exact Heap.get?_none_of_le (Nat.le_trans I.ok.bsz I.ok.above)
theorem Inv.wx(I:Inv X pins σ H s):∀b∈zP X.stack,b∈X.env.locals ::X.fs:=fun b hb=>by
 rcases I.ok.stk with e | ⟨e,hf⟩
 ·rw[e] at hb;exact List.mem_cons_of_mem _ hb
 ·rw[e] at hb
  unfold zP at hb
  rw[List.filterMap_cons,hf] at hb
  exact hb
theorem Inv.x8(I:Inv X pins σ H s):∀b∈zP X.stack,H b=none:=fun b hb=>by
 rcases List.mem_cons.mp (I.wx b hb) with e | hb
 ·rw[e];exact I.free
 ·obtain⟨_,o,ho,_⟩:=I.ok.pe.mem hb
  exact I.base.free b o ho (I.ok.frf b hb) fun z=>I.ok.exfs b z hb
theorem Inv.step{g':Array GenState}{t':Nat}{d':Drawn}{ch:List Addr}(I:Inv X pins σ H s)
 (hch:∀b∈ch,(b∈X.ex∨X.s₀.heap.objs.size≤b)∧b≠X.env.locals∧(∀x c,X.env.cells.lookup x=some c→c≠b)∧∀p∈X.pn++pins,p.1≠b)
 (keep:∀b o,b≠X.env.locals→b ∉ X.fs→b ∉ ch→s.heap.get? b=some o→H b=none→h'.get? b=some o)
 (slot:∀b o,b≠X.env.locals→b∈X.fs→b ∉ ch→s.heap.get? b=some o→H b=none→∃sl,h'.get? b=some {o with slots:=sl}) (free:∀b o,b ∉ ch→s.heap.get? b=some o→H b=none→H' b=none)
 (there:∀b o,b ∉ ch→s.heap.get? b=some o→∃o',h'.get? b=some o')
 (tups:∀b xs,H b=some (.tup xs)→H' b=some (.tup xs)) (frzs:∀b o u,H b=some (.iS o u)→H' b=some (.iS o u)) (tbls:∀b ps,H b=some (.tbl ps)→∃more,H' b=some (.tbl (ps++more)))
 (ns:∀m,s.heap.Ns X.env.locals m→h'.Ns X.env.locals m) (hok:lX X.prog X.w H' h') (hg:AllBare g') :
 Inv X pins σ H' {s with heap:=h',gens:=g',drawn:=d',toks:=t'}:=by
 have neL:∀b o,X.s₀.heap.get? b=some o→b≠X.env.locals:=fun b o e=>Nat.ne_of_lt (Nat.lt_of_lt_of_le (Heap.lt_size e) I.ok.above)
 have neC:∀b o,X.s₀.heap.get? b=some o→b ∉ X.ex→b ∉ ch:=fun b o e hx hb=>by
  rcases(hch b hb).1 with z | z
  ·exact hx z
  ·exact absurd (Nat.lt_of_lt_of_le (Heap.lt_size e) z) (Nat.lt_irrefl _)
 have cellK:∀x c,X.env.cells.lookup x=some c→∀v,s.heap.IsCell c v→h'.IsCell c v:=fun x c e v ⟨o,ho,hd⟩=>by
  have nch:c ∉ ch:=fun z=>(hch c z).2.2.1 x c e rfl
  by_cases hc:c∈X.fs
  ·obtain⟨sl,q⟩:=slot c o (I.GH x c e) hc nch ho (I.freeC x c e)
   exact⟨_,q,hd⟩
  ·exact⟨o,keep c o (I.GH x c e) hc nch ho (I.freeC x c e),hd⟩
 refine⟨I.ok,I.os,hg,⟨fun b o e n hb hx=>?_,fun b o e n hb hx=>?_,fun b o e n hx=>?_,fun b o e hx=>?_,fun b xs e=>tups b xs (I.base.tups b xs e),fun b o xs e=>frzs b o xs (I.base.frzs b o xs e),fun b ps e=>?_⟩,?_,fun x c e=>?_,?_,fun x c e=>?_,fun p hp=>?_,hok,I.len⟩
 ·exact keep b o (neL b o e) hb (neC b o e hx) (I.base.keep b o e n hb hx) (I.base.free b o e n hx)
 ·obtain⟨sl,e1⟩:=I.base.slot b o e n hb hx
  obtain⟨sl',e2⟩:=slot b _ (neL b o e) hb (neC b o e hx) e1 (I.base.free b o e n hx)
  exact⟨sl',e2⟩
 ·obtain⟨o',e1⟩:=I.base.there b o e hx
  exact free b o' (neC b o e hx) e1 (I.base.free b o e n hx)
 ·obtain⟨o',e1⟩:=I.base.there b o e hx
  exact there b o' (neC b o e hx) e1
 ·obtain⟨m1,e1⟩:=I.base.tbls b ps e
  obtain⟨m2,e2⟩:=tbls b _ e1
  exact⟨m1++m2,by rw[e2,Array.append_assoc]⟩
 ·obtain⟨m,hn,hl⟩:=I.loc
  refine⟨m,ns m hn,fun i x v e1 e2 e3=>?_⟩
  obtain⟨u,r,l⟩:=hl i x v e1 e2 e3
  refine⟨u,r,?_⟩
  rcases l with l | ⟨k,c,e,z⟩
  ·exact .inl l
  ·exact .inr ⟨k,c,e,cellK x c e _ z⟩
 ·obtain⟨v,z⟩:=I.cell x c e
  exact⟨v,cellK x c e v z⟩
 ·obtain⟨m,⟨o,_,_,ho,_⟩,_⟩:=I.loc
  exact free _ o (fun z=>(hch _ z).2.1 rfl) ho I.free
 ·obtain⟨v,o,ho,hd⟩:=I.cell x c e
  exact free c o (fun z=>(hch c z).2.2.1 x c e rfl) ho (I.freeC x c e)
 ·obtain⟨e,n,ne,nf,d⟩:=I.pin p hp
  have nch:p.1 ∉ ch:=fun z=>(hch p.1 z).2.2.2 p hp rfl
  exact⟨keep p.1 p.2 ne nf nch e n,free p.1 p.2 nch e n,ne,nf,d⟩
theorem Inv.un{t':Nat}(I:Inv X pins σ H s)(u:Un X.fs [] H H' s.heap h')(hok:lX X.prog X.w H' h'):Inv X pins σ H' {s with heap:=h',toks:=t'}:=by
 obtain⟨m,⟨o,es,ep,ho,r⟩,_⟩:=id I.loc
 obtain⟨sl,hL⟩:=u.any ho I.free (by simp)
 exact I.step (g':=s.gens) (d':=s.drawn) (ch:=[]) (fun _ z=>nomatch z) (fun b o _ hb _ e n=>u.keep b o e n hb (by simp)) (fun b o _ hb _ e n=>u.slot b o e n hb (by simp)) (fun b o _ e n=>u.free b o e n (by simp)) (fun b o _ e=>u.there b o e (by simp)) u.tups u.frzs u.tbls (fun m' hm=>by
  obtain⟨o',es',ep',ho',r'⟩:=hm
  rw[ho] at ho';cases ho'
  exact⟨_,es',ep',hL,r'⟩) hok I.bare
theorem Inv.call{g':Array GenState}{t':Nat}{d':Drawn}{ch:List Addr}(I:Inv X pins σ H s)(u:Un (zP X.stack) ch H H' s.heap h')(hok:lX X.prog X.w H' h')(hg:AllBare g')
 (hch:∀b∈ch,(b∈X.ex∨X.s₀.heap.objs.size≤b)∧b≠X.env.locals∧(∀x c,X.env.cells.lookup x=some c→c≠b)∧∀p∈X.pn++pins,p.1≠b) :
 Inv X pins σ H' {s with heap:=h',gens:=g',drawn:=d',toks:=t'}:=by
 obtain⟨m,⟨o,es,ep,ho,r⟩,_⟩:=id I.loc
 obtain⟨sl,hL⟩:=u.any ho I.free fun z=>(hch _ z).2.1 rfl
 exact I.step (ch:=ch) hch (fun b o hL hb hc e n=>u.keep b o e n (fun z=>(List.mem_cons.mp (I.wx b z)).elim hL hb) hc) (fun b o _ _ hc e n=>u.any e n hc) (fun b o hc e n=>u.free b o e n hc) (fun b o hc e=>u.there b o e hc) u.tups u.frzs u.tbls (fun m' hm=>by
  obtain⟨o',es',ep',ho',r'⟩:=hm
  rw[ho] at ho';cases ho'
  exact⟨_,es',ep',hL,r'⟩) hok hg
theorem Inv.turned{t':Nat}{it:Addr}(I:Inv X pins σ H s)(k:∀b o,b≠it→s.heap.get? b=some o→h'.get? b=some o)(hn:H it=none)(hL:it≠X.env.locals)
 (h1:it∈X.ex∨X.s₀.heap.objs.size≤it) (h2:∀x c,X.env.cells.lookup x=some c→c≠it) (h3:∀p∈X.pn++pins,p.1≠it):Inv X pins σ H {s with heap:=h',toks:=t'}:=by
 have nit:∀b u,H b=some u→b≠it:=fun b u e z=>by rw[z,hn] at e;cases e
 refine I.step (g':=s.gens) (d':=s.drawn) (ch:=[it]) (fun b hb=>?_) (fun b o _ _ hc e _=>k b o (fun z=>hc (by simp [z])) e) (fun b o _ _ hc e _=>⟨o.slots,k b o (fun z=>hc (by simp [z])) e⟩) (fun _ _ _ _ n=>n)
  (fun b o hc e=>⟨o,k b o (fun z=>hc (by simp [z])) e⟩) (fun _ _ e=>e) (fun _ _ _ e=>e) (fun b ps e=>⟨#[],by rw[e];simp⟩) (fun m hm=>?_) (fun b u e=>?_) I.bare
 ·have e:b=it:=by simpa using hb
  subst e
  exact⟨h1,hL,h2,h3⟩
 ·obtain⟨o,es,ep,ho,r⟩:=hm
  exact⟨o,es,ep,k _ o (Ne.symm hL) ho,r⟩
 ·refine(I.hok b u e).sZ (fun c v hc q=>k c v ?_ q) (fun _ q=>q) fun _ _ q=>q
  rcases hc with z | z
  ·rw[z];exact nit b u e
  ·exact nit c _ z
theorem Inv.tok(I:Inv X pins σ H s)(t:Nat):Inv X pins σ H {s with toks:=t}:=I.un (h':=s.heap) (t':=t) Un.refl I.hok
theorem Inv.kept{t':Nat}(I:Inv X pins σ H s)(k:∀b u,s.heap.get? b=some u→h'.get? b=some u):Inv X pins σ H {s with heap:=h',toks:=t'}:=I.un (Un.kept k) (I.hok.kept k)
theorem Inv.laid{a:Addr}{o:HO}{t':Nat}(I:Inv X pins σ H s)(k:∀b u,s.heap.get? b=some u→h'.get? b=some u)(hp:s.heap.objs.size≤a)(new:fj X.prog X.w (upd H a o) h' a o) :
 Inv X pins σ (upd H a o) {s with heap:=h',toks:=t'}:=I.un (Un.laid k hp (I.hok.fresh hp)) (I.hok.laid k hp new)
theorem Inv.write{x e:Addr}{o:HO}{t':Nat}(I:Inv X pins σ H s)(mu:Ha (H x))(he:e=x∨H e=some (.own x))(k:∀b u,b≠e→s.heap.get? b=some u→h'.get? b=some u)(heo:∃u,h'.get? e=some u)
 (new:fj X.prog X.w (upd H x o) h' x o):Inv X pins σ (upd H x o) {s with heap:=h',toks:=t'}:=I.un (Un.write mu he k heo) (I.hok.write mu he k heo new)
theorem Inv.yh{pins':List (Addr × Obj)}(I:Inv X pins σ H s)(h:∀p∈pins',s.heap.get? p.1=some p.2∧H p.1=none∧p.1≠X.env.locals∧p.1 ∉ X.fs∧∀v,p.2.data≠ .cell v):Inv X pins' σ H s:=
 ⟨I.ok,I.os,I.bare,I.base,I.loc,I.cell,I.free,I.freeC,fun p hp=>(List.mem_append.mp hp).elim (fun z=>I.pin p (List.mem_append_left _ z)) (h p),I.hok,I.len⟩
theorem vQ{N:List Str}(hN:N.Nodup){i j:Nat}{x:Str}(a:N[i]? =some x)(b:N[j]? =some x):i=j:=by
 obtain⟨h1,e1⟩:=List.getElem?_eq_some_iff.mp a
 obtain⟨h2,e2⟩:=List.getElem?_eq_some_iff.mp b
 exact(List.getElem_inj hN).mp (e1.trans e2.symm)
theorem rO{M:Model}{A:Around}{E:Value→Shared→Prop}{i:Nat}{x:Str}{v:V}{u:Value}{Q:Unit→Shared→Prop}(I:Inv X pins σ H s)(hN:X.N.Nodup)(hi:X.N[i]? =some x)(hx:Loc X.env.scope x)(r:RelV v u)
 (h:∀s',Inv X pins (σ.set i (some v)) H s'→(∃a,Heap.SameBut a s.heap s'.heap∧(a=X.env.locals∨X.env.cells.lookup x=some a))→Q () s') (hf:X.fn x=true∨X.env.scope.names.lookup x=some .local:=by first | exact .inl rfl | exact .inr rfl | assumption):wpAny M A (storeName X.env x u) Q E s:=by
 obtain⟨m,hn,hl⟩:=id I.loc
 have hcls:(X.env.scope.kind== .class || (X.env.scope.kind== .module && X.env.locals !=X.env.globals))=false:=by rw[I.ok.kind];rfl
 have hiσ:i < σ.length:=by rw[I.len];exact(List.getElem?_eq_some_iff.mp hi).1
 have GH:=I.GH
 have tracked:∀{a:Addr} {h':Heap},(∃o,s.heap.get? a=some o∧H a=none)→Heap.SameBut a s.heap h'→lX X.prog X.w H h':=fun {a h'} ha hs b ob e=>by
  obtain⟨_,_,hfree⟩:=ha
  refine(I.hok b ob e).sZ (fun c w' hc q=>(hs.2 c ?_).trans q) (fun _ q=>q) fun _ _ q=>q
  rintro rfl
  rcases hc with rfl | hc
  ·rw[hfree] at e;cases e
  ·rw[hfree] at hc;cases hc
 rcases hx with hk | hk
 ·refine wpAny_storeName_local hk hn (fun h' hn' hs=>?_) hcls
  obtain⟨oL,_,_,hoL,_⟩:=id hn
  refine h _ ⟨I.ok,I.os,I.bare,⟨fun b o e n hb hx=>?_,fun b o e n hb hx=>?_,I.base.free,fun b o e hx=>?_,I.base.tups,I.base.frzs,I.base.tbls⟩,⟨_,hn',fun j y v' e1 e2 e3=>?_⟩,fun y c e=>?_,I.free,I.freeC,fun p hp=>?_,tracked ⟨oL,hoL,I.free⟩ hs,by simpa using I.len⟩ ⟨_,hs, .inl rfl⟩
  ·exact(hs.2 b (Nat.ne_of_lt (Nat.lt_of_lt_of_le (Heap.lt_size e) I.ok.above))).trans (I.base.keep b o e n hb hx)
  ·obtain⟨sl,e1⟩:=I.base.slot b o e n hb hx
   exact⟨sl,(hs.2 b (Nat.ne_of_lt (Nat.lt_of_lt_of_le (Heap.lt_size e) I.ok.above))).trans e1⟩
  ·obtain⟨o',e1⟩:=I.base.there b o e hx
   exact⟨o',(hs.2 b (Nat.ne_of_lt (Nat.lt_of_lt_of_le (Heap.lt_size e) I.ok.above))).trans e1⟩
  ·by_cases hj:j=i
   ·subst hj
    rw[hi] at e1;cases e1
    rw[List.getElem?_set_self hiσ] at e2
    cases e2
    exact⟨u,r, .inl ⟨hk,by simp⟩⟩
   ·rw[List.getElem?_set_ne (Ne.symm hj)] at e2
    obtain⟨u',r',q⟩:=hl j y v' e1 e2 e3
    refine⟨u',r',?_⟩
    rcases q with⟨k,e⟩ | ⟨k,c,e,z⟩
    ·refine .inl ⟨k,?_⟩
     have:y≠x:=fun e=>hj (vQ hN e1 (e▸hi))
     simp [this,e]
    ·exact .inr ⟨k,c,e,z.sameBut hs (GH y c e)⟩
  ·obtain⟨w',z⟩:=I.cell y c e
   exact⟨w',z.sameBut hs (GH y c e)⟩
  ·obtain⟨e,n,ne,nf,d⟩:=I.pin p hp
   exact⟨(hs.2 p.1 ne).trans e,n,ne,nf,d⟩
 ·have hfn:X.fn x=true:=by
   rcases hf with z | z
   ·exact z
   ·rw[z] at hk;cases hk
  obtain⟨c,hc⟩:=I.ok.has x (.inl hk)
  obtain⟨w',z⟩:=I.cell x c hc
  refine wpAny_storeName_cell I.ok.kind hk hc z (fun h' hc' hs=>?_)
  obtain⟨oc,hoc,hocd⟩:=id z
  refine h {s with heap:=h'} ⟨I.ok,I.os,I.bare,⟨fun b o e n hb hx=>?_,fun b o e n hb hx=>?_,I.base.free,fun b o e hx=>?_,I.base.tups,I.base.frzs,I.base.tbls⟩,⟨m,hn.sameBut hs (Ne.symm (GH x c hc)),fun j y v' e1 e2 e3=>?_⟩,fun y c' e=>?_,I.free,I.freeC,fun p hp=>?_,tracked ⟨oc,hoc,I.freeC x c hc⟩ hs,by simpa using I.len⟩ ⟨c,hs, .inr hc⟩
  ·exact(hs.2 b (Nat.ne_of_lt (Nat.lt_of_lt_of_le (Heap.lt_size e) (I.ok.cab x c hfn hc)))).trans (I.base.keep b o e n hb hx)
  ·obtain⟨sl,e1⟩:=I.base.slot b o e n hb hx
   exact⟨sl,(hs.2 b (Nat.ne_of_lt (Nat.lt_of_lt_of_le (Heap.lt_size e) (I.ok.cab x c hfn hc)))).trans e1⟩
  ·obtain⟨o',e1⟩:=I.base.there b o e hx
   exact⟨o',(hs.2 b (Nat.ne_of_lt (Nat.lt_of_lt_of_le (Heap.lt_size e) (I.ok.cab x c hfn hc)))).trans e1⟩
  ·by_cases hj:j=i
   ·subst hj
    rw[hi] at e1;cases e1
    rw[List.getElem?_set_self hiσ] at e2
    cases e2
    exact⟨u,r, .inr ⟨.inl hk,c,hc,hc'⟩⟩
   ·rw[List.getElem?_set_ne (Ne.symm hj)] at e2
    obtain⟨u',r',q⟩:=hl j y v' e1 e2 e3
    refine⟨u',r',?_⟩
    rcases q with q | ⟨k,c',e,z'⟩
    ·exact .inl q
    ·refine .inr ⟨k,c',e,z'.sameBut hs ?_⟩
     rintro rfl
     exact hj (vQ hN e1 (I.ok.inj _ _ _ e hc▸hi))
  ·by_cases hcc:c'=c
   ·subst hcc;exact⟨_,hc'⟩
   ·obtain⟨w2,z2⟩:=I.cell y c' e
    exact⟨w2,z2.sameBut hs hcc⟩
  ·obtain⟨e,n,ne,nf,d⟩:=I.pin p hp
   refine⟨(hs.2 p.1 ?_).trans e,n,ne,nf,d⟩
   intro q
   rw[q,hoc] at e
   have q':oc=p.2:=Option.some.inj e
   exact d w' (by rw[←q'];exact hocd)
theorem uI{M:Model}{A:Around}{E:Value→Shared→Prop}{i:Nat}{x:Str}{v:V}{u:Value}{Q:Unit→Shared→Prop}(I:Inv X pins σ H s)(hN:X.N.Nodup)(hi:X.N[i]? =some x)(hx:Loc X.env.scope x)(r:RelV v u)
 (h:∀s',Inv X pins (σ.set i (some v)) H s'→Q () s') (hf:X.fn x=true∨X.env.scope.names.lookup x=some .local:=by first | exact .inl rfl | exact .inr rfl | assumption):wpAny M A (storeName X.env x u) Q E s:=
 rO I hN hi hx r (fun s' I' _=>h s' I') hf
theorem Inv.Im{s':Shared}{ch:List Addr}(I:Inv X pins σ H s)(ho:s'.os=s.os)(u:Un (zP X.stack) ch H H' s.heap s'.heap)(hok:lX X.prog X.w H' s'.heap)(hg:AllBare s'.gens)
 (hch:∀b∈ch,(b∈X.ex∨X.s₀.heap.objs.size≤b)∧b≠X.env.locals∧(∀x c,X.env.cells.lookup x=some c→c≠b)∧∀p∈X.pn++pins,p.1≠b):Inv X pins σ H' s':=by
 obtain⟨h',g',d',t',o'⟩:=s'
 have e:o'=s.os:=ho
 subst e
 exact I.call (g':=g') (t':=t') (d':=d') u hok hg hch
end
noncomputable abbrev XK:=Value→Option Addr→Hp→Prop
noncomputable abbrev St:=List (Option V)
noncomputable abbrev VK:=V→Hp→Prop
noncomputable abbrev TE:=St→Hp→VK→Prop
noncomputable abbrev TT:=St→Hp→(Bool→Hp→Prop)→Prop
noncomputable abbrev TA:=St→Hp→(List V→Hp→Prop)→Prop
structure Ends where
 nx:St→Hp→Prop
 rt:VK
 bk:St→Hp→Prop:=fun _ _=>False
 ct:St→Hp→Prop:=fun _ _=>False
noncomputable abbrev TS:=Ends→St→Hp→Prop
noncomputable def EP(X:Cx)(pins:List (Addr × Obj))(σ:St)(Q:VK)(u:Value)(s':Shared):Prop:=∃v H',Inv X pins σ H' s'∧RelV v u∧Q v H'
noncomputable def TP(X:Cx)(pins:List (Addr × Obj))(σ:St)(Q:Bool→Hp→Prop)(b:Bool)(s':Shared):Prop:=∃H',Inv X pins σ H' s'∧Q b H'
noncomputable def AP(X:Cx)(pins:List (Addr × Obj))(σ:St)(Q:List V→Hp→Prop)(us:List Value)(s':Shared):Prop:=∃vs H',Inv X pins σ H' s'∧Vals vs us∧Q vs H'
noncomputable def SP(X:Cx)(pins:List (Addr × Obj))(D:Ends)(f:Flow)(s':Shared):Prop:=
 match f with
 | .next=>∃σ' H',Inv X pins σ' H' s'∧D.nx σ' H'
 | .brk=>∃σ' H',Inv X pins σ' H' s'∧D.bk σ' H'
 | .cont=>∃σ' H',Inv X pins σ' H' s'∧D.ct σ' H'
 | .ret u=>∃v σ' H',Inv X pins σ' H' s'∧RelV v u∧D.rt v H'
noncomputable def PE(X:Cx)(e:Expr)(t:TE):Prop:=
 ∀(pins:List (Addr × Obj)) (s:Shared) (σ:St) (H:Hp) (Q:VK),Inv X pins σ H s→t σ H Q→wpAny (model X.prog X.w) X.A (eval e X.env) (EP X pins σ Q) X.xe s
noncomputable def PT(X:Cx)(e:Expr)(t:TT):Prop:=
 ∀(pins:List (Addr × Obj)) (s:Shared) (σ:St) (H:Hp) (Q:Bool→Hp→Prop),Inv X pins σ H s→t σ H Q→wpAny (model X.prog X.w) X.A (isTrue e X.env (eval e X.env)) (TP X pins σ Q) X.xe s
noncomputable def PW(X:Cx)(e:Expr)(t:TT):Prop:=
 ∀(whole:Sem Value) (pins:List (Addr × Obj)) (s:Shared) (σ:St) (H:Hp) (Q:Bool→Hp→Prop),Inv X pins σ H s→t σ H Q→wpAny (model X.prog X.w) X.A (isTrue e X.env whole) (TP X pins σ Q) X.xe s
theorem PW.pt{X:Cx}{e:Expr}{t:TT}(h:PW X e t):PT X e t:=h _
noncomputable def PA(X:Cx)(es:List Expr)(t:TA):Prop:=
 ∀(pos:Pos) (pins:List (Addr × Obj)) (s:Shared) (σ:St) (H:Hp) (Q:List V→Hp→Prop),Inv X pins σ H s→t σ H Q→wpAny (model X.prog X.w) X.A (spliced (backTo pos (starEach es X.env))) (AP X pins σ Q) X.xe s
noncomputable def PS(X:Cx)(st:Stmt)(t:TS):Prop:=
 ∀(pins:List (Addr × Obj)) (s:Shared) (σ:St) (H:Hp) (D:Ends),Inv X pins σ H s→t D σ H→wpAny (model X.prog X.w) X.A (exec st X.env) (SP X pins D) X.xe s
noncomputable def ue(X:Cx)(st:List Stmt)(t:TS):Prop:=
 ∀(pins:List (Addr × Obj)) (s:Shared) (σ:St) (H:Hp) (D:Ends),Inv X pins σ H s→t D σ H→wpAny (model X.prog X.w) X.A (execs st X.env) (SP X pins D) X.xe s
theorem dN{α:Type}{t:Sem α}{Q Q':α→Shared→Prop}{M:Model}{A:Around}{E:Value→Shared→Prop}{s:Shared}(h:wpAny M A t Q E s)(hQ:∀a s,Q a s→Q' a s):wpAny M A t Q' E s:=wpAny_mono h hQ fun _ _ x=>x
end L2
namespace L2
open PySem PySem.Spec PyProof.Rows
section
variable {X:Cx}
noncomputable def JK(i:Nat):TE:=fun σ H Q=>∃v,σ[i]? =some (some v)∧Q v H
noncomputable def tC(v:V):TE:=fun _ H Q=>Q v H
theorem tw{i:Nat}{x:Str}{pos:Pos}(hN:X.N[i]? =some x)(hv:Ei X.env.scope x)(hd:(x==("__debug__":Str))=false:=by decide)(hcd:(x==("__classdict__":Str))=false:=by decide):PE X (.Name x pos) (JK i):=by
 intro pins s σ H Q I h
 obtain⟨v,e,h⟩:=h
 obtain⟨m,hn,hl⟩:=I.loc
 obtain⟨u,r,l⟩:=hl i x v hN e hv
 have fin:EP X pins σ Q u s:=⟨v,H,I,r,h⟩
 rcases l with⟨hk,hm⟩ | ⟨hk,c,hc,hcell⟩
 ·exact wpAny_Name (wpAny_loadName_local I.ok.kind hk hn hm fin) hd
 ·rcases hk with hk | hk
  ·exact wpAny_Name (wpAny_loadName_cell I.ok.kind hk hc hcell fin) hd
  ·exact wpAny_Name (wpAny_loadName_free I.ok.kind hk hc hcell fin hcd) hd
theorem qi{i j pos}:PE X (.Constant (.int i) j pos) (tC (.int i)):=fun _ _ _ H _ I h=>wpAny_Constant_int ⟨.int i,H,I.tok _,⟨_,rfl⟩,h⟩
theorem HK{b j pos}:PE X (.Constant (.bool b) j pos) (tC (.bl b)):=fun _ _ _ H _ I h=>Constant_bool ⟨.bl b,H,I,rfl,h⟩
theorem Fu{j pos}:PE X (.Constant .none j pos) (tC .cS):=fun _ _ _ H _ I h=>Constant_none ⟨.cS,H,I,rfl,h⟩
theorem qD{x j pos}:PE X (.Constant (.str x) j pos) (tC (.str x)):=fun _ _ _ H _ I h=>Calls.Constant_str ⟨.str x,H,I.tok _,⟨_,rfl⟩,h⟩
noncomputable def Gl(X:Cx)(x:Str):Prop:=X.env.kindOf x=some .globalImplicit
theorem xS{E:Value→Shared→Prop}{pins:List (Addr × Obj)}{s:Shared}{σ:St}{H:Hp}{x:Str}{u:Value}{pos:Pos}{Q:Value→Shared→Prop}(I:Inv X pins σ H s)(hg:Gl X x)(hm:X.mg x=some u)(h:Q u s)
 (hd:(x==("__debug__":Str))=false:=by decide):wpAny (model X.prog X.w) X.A (eval (.Name x pos) X.env) Q E s:=
 Calls.Name_function_global I.ok.kind hg (Calls.loadGlobal_global (by rw[I.ok.glob];exact I.mod.glob.keeps I.bk) hm h) hd
theorem mF{E:Value→Shared→Prop}{pins:List (Addr × Obj)}{s:Shared}{σ:St}{H:Hp}{x:Str}{u:Value}{pos:Pos}{Q:Value→Shared→Prop}(I:Inv X pins σ H s)(hg:Gl X x)(hm:X.mg x=none)(hv:bootBuiltins x=some u)(h:Q u s)
 (hn:x≠"__name__":=by decide) (hd:(x==("__debug__":Str))=false:=by decide):wpAny (model X.prog X.w) X.A (eval (.Name x pos) X.env) Q E s:=by
 obtain⟨mb,h1,h2⟩:=I.mod.blt
 exact Calls.Name_function_global I.ok.kind hg (Calls.loadGlobal_builtin (by rw[I.ok.glob];exact I.mod.glob.keeps I.bk) hm (by rw[I.ok.blt];exact h1.keeps I.bk) ((h2 x hn).trans hv) h) hd
noncomputable def IM(ta tb:TE)(k:Int→Int→Hp→Prop):St→Hp→Prop:=fun σ H=>ta σ H fun x H1=>tb σ H1 fun y H2=>∃i j,x= .int i∧y= .int j∧k i j H2
noncomputable def Lx(ta tb:TE):TE:=fun σ H Q=>IM ta tb (fun i j H2=>Q (.int (i+j)) H2) σ H
noncomputable def LD(ta tb:TE):TE:=fun σ H Q=>IM ta tb (fun i j H2=>Q (.int (i - j)) H2) σ H
noncomputable def LK(ta tb:TE):TE:=fun σ H Q=>IM ta tb (fun i j H2=>(-(2 ^ 64) < i∧i < 2 ^ 64)∧Q (.int (i*j)) H2) σ H
variable {a b:Expr} {ta tb:TE} {pos:Pos}
noncomputable def PC(X:Cx)(op:CmpOp)(a b:Expr)(t:TE):Prop:=
 ∀(pins:List (Addr × Obj)) (s:Shared) (σ:St) (H:Hp) (Q:VK),Inv X pins σ H s→t σ H Q→
  wpAny (model X.prog X.w) X.A (eval a X.env) (fun v s₁=>wpAny (model X.prog X.w) X.A (eval b X.env) (fun u s₂=>wpAny (model X.prog X.w) X.A (compareOp op v u) (EP X pins σ Q) X.xe s₂) X.xe s₁) X.xe s
noncomputable def yV(p:Int→Int→Bool)(ta tb:TE):TE:=fun σ H Q=>IM ta tb (fun i j H2=>Q (.bl (p i j)) H2) σ H
noncomputable abbrev L6:TE→TE→TE:=yV fun i j=>decide (i < j)
noncomputable abbrev L9:TE→TE→TE:=yV fun i j=>decide (i≤j)
noncomputable abbrev L1:TE→TE→TE:=yV fun i j=>decide (j < i)
noncomputable abbrev LU:TE→TE→TE:=yV fun i j=>decide (j≤i)
noncomputable abbrev Ll:TE→TE→TE:=yV fun i j=>decide (i=j)
noncomputable abbrev KG:TE→TE→TE:=yV fun i j=>!decide (i=j)
noncomputable def Lu(ta:TE):TE:=fun σ H Q=>ta σ H fun x H1=>Q (.bl (decide (x= .cS))) H1
noncomputable def Ks(ta:TE):TE:=fun σ H Q=>ta σ H fun x H1=>Q (.bl (!decide (x= .cS))) H1
noncomputable def tB(t:TE):TT:=fun σ H Q=>t σ H fun x H1=>∃c,x= .bl c∧Q c H1
variable {tA tB':TT} {rest:List Expr}
noncomputable def Jy(t u:TT):TT:=fun σ H Q=>t σ H fun c H1=>if c=true then u σ H1 Q else Q false H1
noncomputable def K4(t u:TT):TT:=fun σ H Q=>t σ H fun c H1=>if c=true then Q true H1 else u σ H1 Q
noncomputable def JL(t:TT):TT:=fun σ H Q=>t σ H fun c H1=>Q (!c) H1
theorem yu(ha:PT X a tA):PW X (.BoolOp .And [a] pos) tA:=by
 intro wh pins s σ H Q I h
 refine isTrue_and (dN (ha pins s σ H Q I h) fun c s1 e=>?_)
 cases c with
 | true=>exact isTrue_and_nil e
 | false=>exact e
theorem FC(ha:PT X a tA):PW X (.BoolOp .Or [a] pos) tA:=by
 intro wh pins s σ H Q I h
 refine isTrue_or (dN (ha pins s σ H Q I h) fun c s1 e=>?_)
 cases c with
 | false=>exact isTrue_or_nil e
 | true=>exact e
theorem Ap(ha:PT X a tA)(hb:PW X (.BoolOp .And (b ::rest) pos) tB'):PW X (.BoolOp .And (a ::b ::rest) pos) (Jy tA tB'):=by
 intro wh pins s σ H Q I h
 refine isTrue_and (dN (ha pins s σ H _ I h) fun c s1 ⟨H1,I1,q1⟩=>?_)
 cases c with
 | true=>exact hb wh pins s1 σ H1 Q I1 q1
 | false=>exact⟨H1,I1,q1⟩
theorem Ht(ha:PT X a tA)(hb:PW X (.BoolOp .Or (b ::rest) pos) tB'):PW X (.BoolOp .Or (a ::b ::rest) pos) (K4 tA tB'):=by
 intro wh pins s σ H Q I h
 refine isTrue_or (dN (ha pins s σ H _ I h) fun c s1 ⟨H1,I1,q1⟩=>?_)
 cases c with
 | true=>exact⟨H1,I1,q1⟩
 | false=>exact hb wh pins s1 σ H1 Q I1 q1
theorem Fp(ha:PT X a tA):PT X (.UnaryOp .Not a pos) (JL tA):=by
 intro pins s σ H Q I h
 exact isTrue_not (ha pins s σ H (fun c H1=>Q (!c) H1) I h)
noncomputable def G4(ta tb:TE):TE:=fun σ H Q=>ta σ H fun x H1=>∃c,x= .bl c∧if c=true then tb σ H1 Q else Q (.bl false) H1
noncomputable def Lf(ta tb:TE):TE:=fun σ H Q=>ta σ H fun x H1=>∃c,x= .bl c∧if c=true then Q (.bl true) H1 else tb σ H1 Q
noncomputable def J3(ta:TE):TE:=fun σ H Q=>ta σ H fun x H1=>∃c,x= .bl c∧Q (.bl (!c)) H1
theorem EI{op}{t:TE}(h:PE X a t):PE X (.BoolOp op [a] pos) t:=fun pins s σ H Q I hw=>BoolOp_one (h pins s σ H Q I hw)
theorem F7(ha:PE X a ta)(hb:PE X (.BoolOp .And (b ::rest) pos) tb):PE X (.BoolOp .And (a ::b ::rest) pos) (G4 ta tb):=by
 intro pins s σ H Q I h
 refine BoolOp_and (dN (ha pins s σ H _ I h) fun v s1 ⟨x,H1,I1,r1,q1⟩=>?_)
 obtain⟨c,rfl,q1⟩:=q1
 cases r1
 refine wpAny_truthy_bool ?_
 cases c with
 | true=>exact hb pins s1 σ H1 Q I1 q1
 | false=>exact⟨.bl false,H1,I1,rfl,q1⟩
noncomputable def KP(t:TT)(ta tb:TE):TE:=fun σ H Q=>t σ H fun c H1=>if c=true then ta σ H1 Q else tb σ H1 Q
theorem A_{c:Expr}(hc:PT X c tA)(ha:PE X a ta)(hb:PE X b tb):PE X (.IfExp c a b pos) (KP tA ta tb):=by
 intro pins s σ H Q I h
 refine wpAny_IfExp (dN (hc pins s σ H _ I h) fun d s1 ⟨H1,I1,q1⟩=>?_)
 cases d with
 | true=>exact ha pins s1 σ H1 Q I1 q1
 | false=>exact hb pins s1 σ H1 Q I1 q1
end
end L2
namespace L2
open PySem PySem.Spec PyProof.Rows
noncomputable def nV(K:PySem.W.Frag)(H:Hp)(a:Addr)(xs:List V):Prop:=
 Rd H a (.lst xs)∨
  ∃(o:Obj) (its:Array Value) (n:Nat),K.lookup a=some o∧o.cls= .type "list"∧o.dict=none∧o.data= .seq its n∧its.size≤sizeLine∧Vals xs its.toList
noncomputable def pC(K:PySem.W.Frag)(H:Hp)(a:Addr)(xs:List V):Prop:=
 Rd H a (.tup xs)∨
  ∃(o:Obj) (its:Array Value) (n:Nat),K.lookup a=some o∧o.cls= .type "tuple"∧o.data= .seq its n∧its.size≤sizeLine∧Vals xs its.toList
noncomputable def JE:Value→Option V
 | .none=>some .cS
 | .bool b=>some (.bl b)
 | .int i _=>some (.int i)
 | .str x _=>some (.str x)
 | .bytes b _=>some (.byt b)
 | .float b _=>some (.flt b)
 | .ref a=>some (.ref a)
 | .type n=>some (.ty n)
 | _=>none
theorem RelV.abs{x:V}{u:Value}(r:RelV x u):JE u=some x:=by
 cases x with
 | cS=>cases r;rfl
 | bl _=>cases r;rfl
 | int _=>obtain⟨t,rfl⟩:=r;rfl
 | str _=>obtain⟨t,rfl⟩:=r;rfl
 | byt _=>obtain⟨t,rfl⟩:=r;rfl
 | flt _=>obtain⟨t,rfl⟩:=r;rfl
 | ref _=>cases r;rfl
 | ty _=>cases r;rfl
theorem RelV.inj{x y:V}{u:Value}(r:RelV x u)(q:RelV y u):x=y:=Option.some.inj (r.abs.symm.trans q.abs)
theorem Vals.inj:∀{xs ys:List V} {us:List Value},Vals xs us→Vals ys us→xs=ys
 | _,_,_, .nil, .nil=>rfl
 | _,_,_, .cons r t, .cons r' t'=>by rw[r.inj r',Vals.inj t t']
section
variable {X:Cx} {pins:List (Addr × Obj)} {σ:St} {H:Hp} {s:Shared} {a:Addr} {xs ys:List V}
theorem nV.of{K:PySem.W.Frag}(h:H a=some (.lst xs)):nV K H a xs:= .inl (.inl h)
theorem Inv.list(I:Inv X pins σ H s)(h:nV X.K H a xs):∃its:List Value,Vals xs its∧PlainL s.heap a its.toArray∧xs.length≤sizeLine:=by
 rcases h with h | ⟨o,its,n,hk,hc,hd,hs,hz,r⟩
 ·obtain⟨z,its,n,r,e⟩:=h.ok I.hok
  exact⟨its,r,⟨_,n,e,rfl,rfl,rfl⟩,z⟩
 ·refine⟨its.toList,r,⟨o,n,I.xE a o hk,hc,hd,by simpa using hs⟩,?_⟩
  have e:=r.length
  simp only[Array.length_toList] at e
  omega
theorem Inv.tuple(I:Inv X pins σ H s)(h:pC X.K H a xs):∃its:List Value,Vals xs its∧IsTup s.heap a its.toArray∧xs.length≤sizeLine:=by
 rcases h with h | ⟨o,its,n,hk,hc,hs,hz,r⟩
 ·obtain⟨z,its,r,p⟩:=h.ok I.hok
  exact⟨its,r,p,z⟩
 ·refine⟨its.toList,r,⟨o,I.xE a o hk,hc,n,by simpa using hs⟩,?_⟩
  have e:=r.length
  simp only[Array.length_toList] at e
  omega
theorem Inv.nF(I:Inv X pins σ H s)(h:nV X.K H a xs)(h':nV X.K H a ys):xs=ys:=by
 obtain⟨its,r,⟨o,n,e,_,_,d⟩,_⟩:=I.list h
 obtain⟨its',r',⟨o',n',e',_,_,d'⟩,_⟩:=I.list h'
 rw[e] at e';cases e'
 rw[d] at d'
 injection d' with d1 _
 have:its=its':=by simpa using congrArg Array.toList d1
 subst this
 exact r.inj r'
theorem Inv.oA(I:Inv X pins σ H s)(h:pC X.K H a xs)(h':pC X.K H a ys):xs=ys:=by
 obtain⟨its,r,⟨o,e,_,n,d⟩,_⟩:=I.tuple h
 obtain⟨its',r',⟨o',e',_,n',d'⟩,_⟩:=I.tuple h'
 rw[e] at e';cases e'
 rw[d] at d'
 injection d' with d1 _
 have:its=its':=by simpa using congrArg Array.toList d1
 subst this
 exact r.inj r'
end
noncomputable abbrev Cx.rh(X:Cx)(E:Value→Shared→Prop):Cx:={X with xe:=E}
noncomputable abbrev Cx.D6(X:Cx):Cx:=X.rh fun _ _=>False
theorem Cx.Ok.rh{X:Cx}(ok:X.Ok)(E:Value→Shared→Prop):(X.rh E).Ok:=
 ⟨ok.mod,ok.kind,ok.glob,ok.blt,ok.above,ok.inj,ok.has,ok.cab,ok.hd,ok.frames,ok.stk,ok.exf,ok.bs,ok.bsz,ok.noex,ok.exfs,ok.pe,ok.frf⟩
theorem Cx.Ok.k6{X:Cx}{E:Value→Shared→Prop}(ok:(X.rh E).Ok):X.Ok:=
 ⟨ok.mod,ok.kind,ok.glob,ok.blt,ok.above,ok.inj,ok.has,ok.cab,ok.hd,ok.frames,ok.stk,ok.exf,ok.bs,ok.bsz,ok.noex,ok.exfs,ok.pe,ok.frf⟩
section
variable {X:Cx} {pins:List (Addr × Obj)} {σ:St} {H:Hp} {s:Shared} {E:Value→Shared→Prop}
theorem Inv.rh(I:Inv X pins σ H s)(E:Value→Shared→Prop):Inv (X.rh E) pins σ H s:=⟨I.ok.rh E,I.os,I.bare,I.base,I.loc,I.cell,I.free,I.freeC,I.pin,I.hok,I.len⟩
theorem Inv.k6(I:Inv (X.rh E) pins σ H s):Inv X pins σ H s:=⟨I.ok.k6,I.os,I.bare,I.base,I.loc,I.cell,I.free,I.freeC,I.pin,I.hok,I.len⟩
theorem SP.k6{D:Ends}{f:Flow}{s':Shared}(h:SP (X.rh E) pins D f s'):SP X pins D f s':=by
 cases f with
 | next=>obtain⟨σ',H',I,q⟩:=h;exact⟨σ',H',I.k6,q⟩
 | brk=>obtain⟨σ',H',I,q⟩:=h;exact⟨σ',H',I.k6,q⟩
 | cont=>obtain⟨σ',H',I,q⟩:=h;exact⟨σ',H',I.k6,q⟩
 | ret u=>obtain⟨v,σ',H',I,r,q⟩:=h;exact⟨v,σ',H',I.k6,r,q⟩
theorem ue.D6{st:List Stmt}{t:TS}(h:ue X.D6 st t):ue X st t:=fun pins s σ H D I hw=>
 wpAny_mono (h pins s σ H D (I.rh _) hw) (fun _ _ q=>q.k6) fun _ _ z=>False.elim z
end
section
variable {X:Cx} {st:Stmt} {rest:List Stmt} {t u:TS} {e:Expr} {te:TE} {pos:Pos}
noncomputable def Hq:TS:=fun D σ H=>D.nx σ H
noncomputable def Hr(t u:TS):TS:=fun D σ H=>t {D with nx:=u D} σ H
theorem xQ:ue X [] Hq:=fun _ _ σ H _ I h=>wpAny_execs_nil ⟨σ,H,I,h⟩
theorem u7(h1:PS X st t)(h2:ue X rest u):ue X (st ::rest) (Hr t u):=by
 intro pins s σ H D I h
 refine wpAny_execs_cons (dN (h1 pins s σ H {D with nx:=u D} I h) fun f s1 q=>?_)
 cases f with
 | next=>
   obtain⟨σ',H',I',q⟩:=q
   exact h2 pins s1 σ' H' D I' q
 | ret v=>exact q
 | brk=>exact q
 | cont=>exact q
theorem yx(h1:PS X st t):ue X [st] t:=by
 intro pins s σ H D I h
 refine wpAny_execs_cons (dN (h1 pins s σ H D I h) fun f s1 q=>?_)
 cases f with
 | next=>exact wpAny_execs_nil q
 | ret v=>exact q
 | brk=>exact q
 | cont=>exact q
noncomputable def Jk:TS:=fun D σ H=>D.bk σ H
noncomputable def Km:TS:=fun D σ H=>D.ct σ H
theorem Inv.quiet{pins:List (Addr × Obj)}{σ:St}{H:Hp}{s:Shared}(I:Inv X pins σ H s):interactive X.env=false:=by simp [interactive,I.ok.kind]
noncomputable def HJ(te:TE):TS:=fun D σ H=>te σ H fun _ H1=>D.nx σ H1
theorem yH(he:PE X e te)(hs:swapsWith e none pos.line X.env=pure false:=by rfl):PS X (.Expr e pos) (HJ te):=by
 intro pins s σ H D I h
 exact wpAny_Expr_any (dN (he pins s σ H _ I h) fun v s1 ⟨x,H1,I1,r1,q1⟩=>⟨σ,H1,I1,q1⟩) I.quiet hs
noncomputable def JB(te:TE):TS:=fun D σ H=>te σ H D.rt
theorem Ci(he:PE X e te):PS X (.Return (some e) pos) (JB te):=by
 intro pins s σ H D I h
 exact wpAny_Return_some (dN (he pins s σ H _ I h) fun v s1 ⟨x,H1,I1,r1,q1⟩=>⟨x,σ,H1,I1,r1,q1⟩)
noncomputable def J1:TS:=fun D _ H=>D.rt .cS H
noncomputable def Jr(c:TT)(t u:TS):TS:=fun D σ H=>c σ H fun b H1=>if b=true then t D σ H1 else u D σ H1
theorem El{c:Expr}{a b:List Stmt}{tc:TT}(hc:PT X c tc)(ha:ue X a t)(hb:ue X b u):PS X (.If c a b pos) (Jr tc t u):=by
 intro pins s σ H D I h
 refine wpAny_If (dN (hc pins s σ H _ I h) fun d s1 ⟨H1,I1,q1⟩=>?_)
 cases d with
 | true=>exact ha pins s1 σ H1 D I1 q1
 | false=>exact hb pins s1 σ H1 D I1 q1
noncomputable def JG:TS:=fun _ _ _=>False
end
noncomputable abbrev TG:=V→St→Hp→(St→Hp→Prop)→Prop
noncomputable abbrev BI:=List V→St→Hp→(St→Hp→Prop)→Prop
noncomputable def PG(X:Cx)(target:Expr)(t:TG):Prop:=
 ∀(pins:List (Addr × Obj)) (s:Shared) (σ:St) (H:Hp) (v:V) (u:Value) (Q:St→Hp→Prop),Inv X pins σ H s→RelV v u→t v σ H Q→
  wpAny (model X.prog X.w) X.A (assign target X.env u) (fun _ s'=>∃σ' H',Inv X pins σ' H' s'∧Q σ' H') X.xe s
noncomputable def Ef(X:Cx)(ts:List Expr)(t:BI):Prop:=
 ∀(pins:List (Addr × Obj)) (s:Shared) (σ:St) (H:Hp) (vs:List V) (us:List Value) (Q:St→Hp→Prop),Inv X pins σ H s→Vals vs us→t vs σ H Q→
  wpAny (model X.prog X.w) X.A (assignInOrder ((assignEach ts X.env).map (·.2)) us) (fun _ s'=>∃σ' H',Inv X pins σ' H' s'∧Q σ' H') X.xe s
noncomputable abbrev C7:=V→V→V→Hp→(Hp→Prop)→Prop
noncomputable def Hi(X:Cx)(t:C7):Prop:=
 ∀(pins:List (Addr × Obj)) (s:Shared) (σ:St) (H:Hp) (o i v:V) (ov iv u:Value) (Q:Hp→Prop),Inv X pins σ H s→RelV o ov→RelV i iv→RelV v u→t o i v H Q→
  wpAny (model X.prog X.w) X.A (setItem ov iv u) (fun _ s'=>∃H',Inv X pins σ H' s'∧Q H') X.xe s
noncomputable abbrev IG:=V→V→Hp→VK→Prop
noncomputable def LR(X:Cx)(op:Operator)(t:IG):Prop:=
 ∀(pins:List (Addr × Obj)) (s:Shared) (σ:St) (H:Hp) (x y:V) (v u:Value) (Q:VK),Inv X pins σ H s→RelV x v→RelV y u→t x y H Q→
  wpAny (model X.prog X.w) X.A (inplaceOp op v u) (EP X pins σ Q) X.xe s
section
variable {X:Cx} {pos:Pos}
noncomputable def qo(i:Nat):TG:=fun v σ H Q=>Q (σ.set i (some v)) H
theorem yK{i:Nat}{x:Str}(hN:X.N.Nodup)(hi:X.N[i]? =some x)(hx:Loc X.env.scope x)(hf:X.fn x=true∨X.env.scope.names.lookup x=some .local:=by first | exact .inl rfl | exact .inr rfl | assumption):PG X (.Name x pos) (qo i):=by
 intro pins s σ H v u Q I r h
 exact wpAny_assign_Name (uI I hN hi hx r (fun s' I'=>⟨_,H,I',h⟩) hf)
noncomputable def Ja:BI:=fun vs σ H Q=>vs=[]∧Q σ H
noncomputable def G5(t:TG)(u:BI):BI:=fun vs σ H Q=>∃v r,vs=v ::r∧t v σ H fun σ' H'=>u r σ' H' Q
theorem xR:Ef X [] Ja:=by
 intro pins s σ H vs us Q I r h
 obtain⟨e,h⟩:=h
 subst e
 cases r
 exact assignInOrder_nil ⟨σ,H,I,h⟩
theorem vC{e:Expr}{es:List Expr}{t:TG}{u:BI}(h1:PG X e t)(h2:Ef X es u)
 (hs:(assignEach (e ::es) X.env).map (·.2)=assign e X.env ::(assignEach es X.env).map (·.2):=by rfl):Ef X (e ::es) (G5 t u):=by
 intro pins s σ H vs us Q I r h
 obtain⟨v,vr,e1,h⟩:=h
 subst e1
 cases r with
 | cons r rr=>
   rw[hs]
   refine assignInOrder_cons (dN (h1 pins s σ H _ _ _ I r h) fun _ s1 ⟨σ1,H1,I1,q1⟩=>?_)
   exact h2 pins s1 σ1 H1 _ _ Q I1 rr q1
noncomputable def Jh(K:PySem.W.Frag)(n:Nat)(t:BI):TG:=fun v σ H Q=>∃a xs,v= .ref a∧pC K H a xs∧xs.length=n∧t xs σ H Q
theorem Ab{es:List Expr}{k:Nat}{t:BI}{n:Nat}(hc:X.calm=true)(h:Ef X es t)
 (hn:(assignEach es X.env).length=n:=by rfl) (hst:(assignEach es X.env).findIdx? (·.1)=none:=by rfl):PG X (.Tuple es k pos) (Jh X.K n t):=by
 intro pins s σ H v u Q I r hw
 obtain⟨a,xs,e1,hq,hl,hw⟩:=hw
 subst e1
 cases r
 obtain⟨its,rv,ht,hz⟩:=I.tuple hq
 refine assign_Tuple_tuple (I.ok.hd hc) ht (by simp [hn,←hl,rv.length]) hst fun h' hx=>?_
 have I1:Inv X pins σ H {s with heap:=h'}:=I.kept (t':=s.toks) fun b o e=>hx b o (Nat.ne_of_lt (Heap.lt_size e)) e
 exact h pins _ σ H xs _ Q I1 (by simpa using rv) hw
noncomputable def HW(to ti:TE)(t:C7):TG:=fun v σ H Q=>to σ H fun o H1=>ti σ H1 fun i H2=>t o i v H2 fun H3=>Q σ H3
theorem sT{o i:Expr}{to ti:TE}{t:C7}(ho:PE X o to)(hi:PE X i ti)(hs:Hi X t)
 (ha:∀v,assign (.Subscript o i pos) X.env v=(do
   let ov ←holding [v] (eval o X.env)
   let iv ←holding [v,ov] (eval i X.env)
   standAt pos
   holding [v,ov,iv] (setItem ov iv v)
   release [v,ov,iv] []):=by intro _;rfl):PG X (.Subscript o i pos) (HW to ti t):=by
 intro pins s σ H v u Q I r h
 rw[ha]
 refine wpAny_bind (wpAny_holding (dN (ho pins s σ H _ I h) fun ov s1 ⟨x,H1,I1,r1,q1⟩=>?_))
 refine wpAny_bind (wpAny_holding (dN (hi pins s1 σ H1 _ I1 q1) fun iv s2 ⟨y,H2,I2,r2,q2⟩=>?_))
 refine wpAny_bind (wpAny_standAt (wpAny_bind (wpAny_holding (dN (hs pins s2 σ H2 x y v ov iv u _ I2 r1 r2 r q2) fun _ s3 ⟨H3,I3,q3⟩=>?_))))
 exact wpAny_release ⟨σ,H3,I3,q3⟩
noncomputable def zG(te:TE)(g:TG):TS:=fun D σ H=>te σ H fun x H1=>g x σ H1 D.nx
theorem EU{tg e:Expr}{te:TE}{g:TG}(he:PE X e te)(hg:PG X tg g)(hs:swapsWithSole [tg] e pos.line X.env=pure false:=by rfl)(hw:swappedStores [tg] e X.env=pure none:=by rfl)
 (h1:(assignEach [tg] X.env).map (·.2)=[assign tg X.env]:=by rfl):PS X (.Assign [tg] e pos) (zG te g):=by
 intro pins s σ H D I h
 refine wpAny_Assign_stores (dN (he pins s σ H _ I h) fun v s1 ⟨x,H1,I1,r1,q1⟩=>?_) hs hw
 rw[h1]
 exact dN (hg pins s1 σ H1 x v _ I1 r1 q1) fun _ s2 q=>q
theorem wy{i:Nat}{x:Str}{e:Expr}{te:TE}{pos':Pos}(hN:X.N.Nodup)(hi:X.N[i]? =some x)(hx:Loc X.env.scope x)(he:PE X e te)(hs:swapsWith e (some (.Name x pos')) pos.line X.env=pure false:=by rfl)(hf:X.fn x=true∨X.env.scope.names.lookup x=some .local:=by first | exact .inl rfl | exact .inr rfl | assumption) :
 PS X (.Assign [.Name x pos'] e pos) (zG te (qo i)):=by
 intro pins s σ H D I h
 refine wpAny_Assign_Name (dN (he pins s σ H _ I h) fun v s1 ⟨y,H1,I1,r1,q1⟩=>?_) hs
 exact uI I1 hN hi hx r1 (fun s2 I2=>⟨_,H1,I2,q1⟩) hf
noncomputable def KS(i j:Nat)(ta:TA):TS:=fun D σ H=>ta σ H fun vs H1=>∃v w,vs=[v,w]∧D.nx ((σ.set i (some v)).set j (some w)) H1
noncomputable def Lo(i:Nat)(te:TE)(ti:IG):TS:=fun D σ H=>∃x,σ[i]? =some (some x)∧te σ H fun y H1=>ti x y H1 fun z H2=>D.nx (σ.set i (some z)) H2
noncomputable def J8(to ti te:TE)(tget:V→V→Hp→VK→Prop)(tip:IG)(tset:C7):TS:=fun D σ H=>to σ H fun o H1=>ti σ H1 fun i H2=>tget o i H2 fun x H3=>te σ H3 fun y H4=>tip x y H4 fun z H5=>tset o i z H5 fun H6=>D.nx σ H6
noncomputable def LN(X:Cx)(t:V→V→Hp→VK→Prop):Prop:=
 ∀(pins:List (Addr × Obj)) (s:Shared) (σ:St) (H:Hp) (o i:V) (ov iv:Value) (Q:VK),Inv X pins σ H s→RelV o ov→RelV i iv→t o i H Q→
  wpAny (model X.prog X.w) X.A (getItem ov iv) (EP X pins σ Q) X.xe s
noncomputable def L5(f:Int→Int→Int):IG:=fun x y H Q=>∃i j,x= .int i∧y= .int j∧Q (.int (f i j)) H
end
section
variable {X:Cx} {pos:Pos}
noncomputable def Gn(c:TT)(tb:TS):TS:=fun D σ H=>∃W:Nat→St→Hp→Prop,(∃m,W m σ H)∧∀m σ H,W m σ H→
 c σ H fun b H1=>if b=true then ∃N:St→Hp→Prop,(∀σ' H',N σ' H'→∃m',m' < m∧W m' σ' H')∧tb {D with nx:=N,ct:=N,bk:=D.nx} σ H1 else D.nx σ H1
theorem BL{c:Expr}{body:List Stmt}{tc:TT}{tb:TS}(hp:PassesOwn (model X.prog X.w) X.A X.env X.xe)(hc:PT X c tc)(hb:ue X body tb):PS X (.While c body [] pos) (Gn tc tb):=by
 intro pins s σ H D I h
 obtain⟨W,⟨m0,w0⟩,turn⟩:=h
 refine wpAny_While (codeAny_whileLoop (fun n s'=>∃σ' H',Inv X pins σ' H' s'∧W n σ' H') ?_ m0 ⟨σ,H,I,w0⟩)
 rintro n s1 ⟨σ1,H1,I1,w1⟩
 refine wpAny_passesOwn hp (dN (hc pins s1 σ1 H1 _ I1 (turn n σ1 H1 w1)) fun b s2 ⟨H2,I2,q2⟩=>?_)
 cases b with
 | true=>
   obtain⟨N,hN,q2⟩:=q2
   rw[if_pos rfl]
   refine wpAny_passesOwn hp (dN (hb pins s2 σ1 H2 _ I2 q2) fun f s3 q3=>?_)
   cases f with
   | next=>
     obtain⟨σ3,H3,I3,n3⟩:=q3
     obtain⟨m',hm,w3⟩:=hN σ3 H3 n3
     exact⟨m',hm,σ3,H3,I3,w3⟩
   | cont=>
     obtain⟨σ3,H3,I3,n3⟩:=q3
     obtain⟨m',hm,w3⟩:=hN σ3 H3 n3
     exact⟨m',hm,σ3,H3,I3,w3⟩
   | brk=>exact q3
   | ret v=>exact q3
 | false=>
   rw[if_neg Bool.false_ne_true]
   exact wpAny_execs_nil ⟨σ1,H2,I2,q2⟩
end
structure It where
 go:Nat→Hp→Prop
 yld:Nat→Hp→V→Hp→Prop
 stop:Nat→Hp→Prop
noncomputable def pf(X:Cx)(pins:List (Addr × Obj))(H:Hp)(b:Addr):Prop:=
 H b=none∧b≠X.env.locals∧b ∉ X.fs∧(b∈X.ex∨X.s₀.heap.objs.size≤b)∧(∀x c,X.env.cells.lookup x=some c→c≠b)∧∀p∈X.pn++pins,p.1≠b
theorem Inv.rA{X:Cx}{pins:List (Addr × Obj)}{σ:St}{H H':Hp}{s:Shared}{b:Addr}(I:Inv X pins σ H s)(hb:s.heap.objs.size≤b)(hn:H' b=none):pf X pins H' b:=by
 refine⟨hn,Nat.ne_of_gt (Nat.lt_of_lt_of_le I.lt hb),I.Jo hb, .inr (Nat.le_trans I.sz hb),fun x c e z=>?_,fun p hp z=>?_⟩
 ·obtain⟨v,q⟩:=I.cell x c e
  exact absurd (Nat.lt_of_lt_of_le q.lt (by rw[z];exact hb)) (Nat.lt_irrefl _)
 ·exact absurd (Nat.lt_of_lt_of_le (Heap.lt_size (I.pin p hp).1) (by rw[z];exact hb)) (Nat.lt_irrefl _)
structure Turn (P:Program) (w:World) (K:PySem.W.Frag) (tg:Expr) (J:It) (fp:List Addr) (it:Addr) (tn:Nat→Heap→Prop):Prop where
 mem:it∈fp
 obj:∀i h,tn i h→∀b∈fp,∃o,h.get? b=some o∧∀v,o.data≠ .cell v
 keep:∀i h h',tn i h→(∀b∈fp,∀o,h.get? b=some o→h'.get? b=some o)→tn i h'
 item:∀(X:Cx),X.prog=P→X.w=w→X.K=K→X.calm=true→∀(i:Nat) (pins:List (Addr × Obj)) (s:Shared) (σ:St) (H:Hp) (E:Value→Shared→Prop),Inv X pins σ H s→(∀b∈fp,pf X pins H b)→tn i s.heap→J.go i H→
  wpAny (model P w) X.A (pyNext (.ref it)) (fun r s1=>∃u,r=some u∧
   wpAny (model P w) X.A (letOwnedTupleGo tg (.ref it) u) (fun _ s2=>∃x H',Inv X pins σ H' s2∧RelV x u∧J.yld i H x H'∧tn (i+1) s2.heap∧∀b∈fp,H' b=none) E s1) E s
 done:∀(X:Cx),X.prog=P→X.w=w→X.K=K→X.calm=true→∀(i:Nat) (pins:List (Addr × Obj)) (s:Shared) (σ:St) (H:Hp) (E:Value→Shared→Prop),Inv X pins σ H s→(∀b∈fp,pf X pins H b)→tn i s.heap→J.stop i H→
  wpAny (model P w) X.A (pyNext (.ref it)) (fun r s1=>r=none∧Inv X pins σ H s1) E s
 self:∀(A:Around) (i:Nat) (s:Shared) (Q:Value→Shared→Prop) (E:Value→Shared→Prop),tn i s.heap→Q (.ref it) s→wpAny (model P w) A (pyIter (.ref it)) Q E s
noncomputable abbrev TI:=St→Hp→(It→Hp→Prop)→Prop
noncomputable def Kq(X:Cx)(pins:List (Addr × Obj))(σ:St)(tg:Expr)(R:It→Hp→Prop)(itv:Value)(s2:Shared):Prop:=
 ∃(it:Addr) (fp:List Addr) (tn:Nat→Heap→Prop) (J:It) (H':Hp),itv= .ref it∧Inv X pins σ H' s2∧Turn X.prog X.w X.K tg J fp it tn∧tn 0 s2.heap∧(∀b∈fp,pf X pins H' b)∧R J H'
noncomputable def PI(X:Cx)(tg iter:Expr)(wi:TI):Prop:=
 ∀(pins:List (Addr × Obj)) (s:Shared) (σ:St) (H:Hp) (R:It→Hp→Prop),Inv X pins σ H s→wi σ H R→
  wpAny (model X.prog X.w) X.A (eval iter X.env) (fun v s1=>wpAny (model X.prog X.w) X.A (pyIter v) (Kq X pins σ tg R) X.xe s1) X.xe s
theorem yp{M:Model}{A:Around}{E:Value→Shared→Prop}{s:Shared}{tg:Expr}{it:Addr}{u:Value}{o:Obj}{n:String}{vs:Array Value}{Q:Unit→Shared→Prop}(ho:s.heap.get? it=some o)(hc:o.cls= .type n)(hd:o.data= .fields vs)
 (hn:["enumerate","zip","dict_itemiterator","dict_reverseitemiterator","odict_iterator","itertools.zip_longest","itertools.pairwise"].contains n=false) (hQ:Q () s):wpAny M A (letOwnedTupleGo tg (.ref it) u) Q E s:=by
 unfold letOwnedTupleGo
 cases tg <;> first
  | exact wpAny_pure hQ
  | (cases u <;> first
      | exact wpAny_pure hQ
      | (refine wpAny_bind (wpAny_load ho ?_)
         rw[hc,hd]
         show wpAny M A (if(["enumerate","zip","dict_itemiterator","dict_reverseitemiterator","odict_iterator","itertools.zip_longest","itertools.pairwise"].contains n && vs[0]? ==some (rawInt _))=true then _ else _) Q E s
         rw[if_neg (by intro h;rw [hn,Bool.false_and] at h;cases h)]
         exact wpAny_pure hQ))
noncomputable def J_(K:PySem.W.Frag)(a:Addr):It:=
 ⟨fun i H=>∃xs x,nV K H a xs∧xs[i]? =some x,fun i H x H'=>H'=H∧∀xs,nV K H a xs→xs[i]? =some x,fun i H=>∃xs,nV K H a xs∧xs.length≤i⟩
noncomputable def Ku(K:PySem.W.Frag)(a:Addr):It:=
 ⟨fun i H=>∃xs x,pC K H a xs∧xs[i]? =some x,fun i H x H'=>H'=H∧∀xs,pC K H a xs→xs[i]? =some x,fun i H=>∃xs,pC K H a xs∧xs.length≤i⟩
noncomputable def HD(lo:Int)(n:Nat):It:=⟨fun i _=>i < n,fun i H x H'=>H'=H∧x= .int (lo+i),fun i _=>n≤i⟩
theorem sd{P:Program}{w:World}{K:PySem.W.Frag}{tg:Expr}(a it:Addr):Turn P w K tg (J_ K a) [it] it (fun i h=>h.IsListIter it a i) where
 mem:=by simp
 obj:=fun i h st b hb=>by
  have e:b=it:=by simpa using hb
  subst e
  obtain⟨o,e,c,d⟩:=st
  exact⟨o,e,fun v z=>by rw[d] at z;cases z⟩
 keep:=fun i h h' st k=>st.at fun o e=>k it (by simp) o e
 item:=by
  intro X hP hw hK hc i pins s σ H E I hf st hg
  subst hP hw hK
  obtain⟨xs,x,hq,hx⟩:=hg
  obtain⟨its,rv,p,hz⟩:=I.list hq
  obtain⟨u,hu,ru⟩:=rv.get hx
  obtain⟨f0,f1,f2,f3,f4,f5⟩:=hf it (by simp)
  refine wpAny_pyNext_list_item st p.isList (x:=u) (by simpa using hu) fun h' st' sb=>?_
  have I1:Inv X pins σ H {s with heap:=h'}:=I.turned (t':=s.toks) (fun b o hb e=>(sb.2 b hb).trans e) f0 f1 f3 f4 f5
  obtain⟨o,e,c,d⟩:=id st'
  exact⟨u,rfl,yp (s:={s with heap:=h'}) e c d (by decide) ⟨x,H,I1,ru,⟨rfl,fun ys hy=>by rw[I.nF hy hq];exact hx⟩,st',fun b hb=>(hf b hb).1⟩⟩
 done:=by
  intro X hP hw hK hc i pins s σ H E I hf st hg
  subst hP hw hK
  obtain⟨xs,hq,hx⟩:=hg
  obtain⟨its,rv,p,hz⟩:=I.list hq
  obtain⟨f0,f1,f2,f3,f4,f5⟩:=hf it (by simp)
  have hl:=rv.length
  exact wpAny_pyNext_list_end (I.ok.hd hc) st p.isList (by simp;omega) fun h' eb=>⟨rfl,I.turned (t':=s.toks) (fun b o hb e=>eb b o hb e) f0 f1 f3 f4 f5⟩
 self:=fun _ _ _ _ _ st h=>wpAny_pyIter_listiter st h
theorem wA{P:Program}{w:World}{K:PySem.W.Frag}{tg:Expr}(a it:Addr):Turn P w K tg (Ku K a) [it] it (fun i h=>h.IsTupleIter it a i) where
 mem:=by simp
 obj:=fun i h st b hb=>by
  have e:b=it:=by simpa using hb
  subst e
  obtain⟨o,e,c,d⟩:=st
  exact⟨o,e,fun v z=>by rw[d] at z;cases z⟩
 keep:=fun i h h' st k=>st.at fun o e=>k it (by simp) o e
 item:=by
  intro X hP hw hK hc i pins s σ H E I hf st hg
  subst hP hw hK
  obtain⟨xs,x,hq,hx⟩:=hg
  obtain⟨its,rv,p,hz⟩:=I.tuple hq
  obtain⟨u,hu,ru⟩:=rv.get hx
  obtain⟨f0,f1,f2,f3,f4,f5⟩:=hf it (by simp)
  refine wpAny_pyNext_tuple_item st (show s.heap.IsTuple a its.toArray from p) (x:=u) (by simpa using hu) fun h' st' sb=>?_
  have I1:Inv X pins σ H {s with heap:=h'}:=I.turned (t':=s.toks) (fun b o hb e=>(sb.2 b hb).trans e) f0 f1 f3 f4 f5
  obtain⟨o,e,c,d⟩:=id st'
  exact⟨u,rfl,yp (s:={s with heap:=h'}) e c d (by decide) ⟨x,H,I1,ru,⟨rfl,fun ys hy=>by rw[I.oA hy hq];exact hx⟩,st',fun b hb=>(hf b hb).1⟩⟩
 done:=by
  intro X hP hw hK hc i pins s σ H E I hf st hg
  subst hP hw hK
  obtain⟨xs,hq,hx⟩:=hg
  obtain⟨its,rv,p,hz⟩:=I.tuple hq
  obtain⟨f0,f1,f2,f3,f4,f5⟩:=hf it (by simp)
  have hl:=rv.length
  exact wpAny_pyNext_tuple_end (I.ok.hd hc) st (show s.heap.IsTuple a its.toArray from p) (by simp;omega) fun h' eb=>⟨rfl,I.turned (t':=s.toks) (fun b o hb e=>eb b o hb e) f0 f1 f3 f4 f5⟩
 self:=fun _ _ _ _ _ st h=>wpAny_pyIter_tupleiter st h
theorem xf{P:Program}{w:World}{K:PySem.W.Frag}{tg:Expr}(it:Addr)(lo:Int)(n:Nat):Turn P w K tg (HD lo n) [it] it (fun i h=>IsRangeIter h it (lo+(i:Nat)*1) ((n:Int) - (i:Nat)) 1) where
 mem:=by simp
 obj:=fun i h st b hb=>by
  have e:b=it:=by simpa using hb
  subst e
  exact⟨_,st,fun v z=>by
   have z':Data.fields _=Data.cell v:=z
   cases z'⟩
 keep:=fun i h h' st k=>k it (by simp) _ st
 item:=by
  intro X hP hw hK hc i pins s σ H E I hf st hg
  subst hP hw hK
  obtain⟨f0,f1,f2,f3,f4,f5⟩:=hf it (by simp)
  have W:=Walks.range (prog:=X.prog) (w:=X.w) (I.ok.hd hc) it lo 1 n
  refine W.item i s _ _ hg st fun v h' tk hv st' kk=>?_
  obtain⟨t,rfl⟩:=hv
  have I1:Inv X pins σ H {s with heap:=h',toks:=tk}:=I.turned (fun b o hb e=>kk b o (by simpa using hb) e) f0 f1 f3 f4 f5
  refine⟨_,rfl,yp (s:={s with heap:=h',toks:=tk}) (n:="range_iterator") st' rfl rfl (by decide) ⟨.int (lo+i),H,I1,⟨t,?_⟩,⟨rfl,rfl⟩,st',fun b hb=>(hf b hb).1⟩⟩
  rw[Int.mul_one]
 done:=by
  intro X hP hw hK hc i pins s σ H E I hf st hg
  subst hP hw hK
  obtain⟨f0,f1,f2,f3,f4,f5⟩:=hf it (by simp)
  exact wpAny_pyNext_range_end (I.ok.hd hc) st (by have:n≤i:=hg;omega) fun h' eb=>⟨rfl,I.turned (t':=s.toks) (fun b o hb e=>eb b o hb e) f0 f1 f3 f4 f5⟩
 self:=fun _ _ _ _ _ st h=>wpAny_pyIter_rangeiter st h
end L2
namespace L2
open PySem PySem.Spec PyProof.Rows
section
variable {X:Cx} {tg:Expr}
noncomputable def J6(K:PySem.W.Frag)(tl:TE):TI:=fun σ H R=>tl σ H fun x H1=>∃a,x= .ref a∧(∃xs,nV K H1 a xs)∧R (J_ K a) H1
noncomputable def JU(K:PySem.W.Frag)(tl:TE):TI:=fun σ H R=>tl σ H fun x H1=>∃a,x= .ref a∧(∃xs,pC K H1 a xs)∧R (Ku K a) H1
theorem Ag{pins:List (Addr × Obj)}{σ:St}{H:Hp}{s:Shared}{R:It→Hp→Prop}{E:Value→Shared→Prop}{lo hi:Int}{t u v:Tok}{tk:Nat}(I:Inv X pins σ H s)(h1: -(2 ^ 62)≤lo)(h2:lo < 2 ^ 62)(h3: -(2 ^ 62)≤hi)(h4:hi < 2 ^ 62)
 (q:R (HD lo (hi - lo).toNat) H):wpAny (model X.prog X.w) X.A (pyIter (.ref s.heap.objs.size)) (Kq X pins σ tg R) E {s with heap:=s.heap.push {cls:= .type "range",data:= .fields #[.int lo t, .int hi u, .int 1 v]},toks:=tk}:=by
 refine wpAny_pyIter_range (IsRange.new ..) (small_one h1 h2 h3 h4) ?_
 have I1:Inv X pins σ H {s with heap:=s.heap.push {cls:= .type "range",data:= .fields #[.int lo t, .int hi u, .int 1 v]},toks:=tk}:=I.kept fun b o e=>Heap.get?_push_of_some _ e
 refine⟨(s.heap.push {cls:= .type "range",data:= .fields #[.int lo t, .int hi u, .int 1 v]}).objs.size,[(s.heap.push {cls:= .type "range",data:= .fields #[.int lo t, .int hi u, .int 1 v]}).objs.size],_,_,H,rfl,
  I1.kept (t':=tk) fun b o e=>Heap.get?_push_of_some _ e,xf _ lo (hi - lo).toNat,?_,fun b hb=>?_,q⟩
 ·have e1:lo+((0:Nat):Int)*1=lo:=by simp
  have e2:(((hi - lo).toNat:Nat):Int) - ((0:Nat):Int)=Builtin.Range.rangeSize lo hi 1:=by rw[rangeSize_one];split <;> omega
  show IsRangeIter _ _ (lo+((0:Nat):Int)*1) ((((hi - lo).toNat:Nat):Int) - ((0:Nat):Int)) 1
  rw[e1,e2]
  exact Heap.get?_push_size _ rfl
 ·have e:b=(s.heap.push {cls:= .type "range",data:= .fields #[.int lo t, .int hi u, .int 1 v]}).objs.size:=by simpa using hb
  subst e
  exact I1.rA (Nat.le_refl _) (I1.hok.fresh (Nat.le_refl _))
noncomputable def k8(ta:TA):TI:=fun σ H R=>ta σ H fun vs H1=>∃j:Int,vs=[.int j]∧ -(2 ^ 62)≤j∧j < 2 ^ 62∧R (HD 0 j.toNat) H1
noncomputable def J5(ta:TA):TI:=fun σ H R=>ta σ H fun vs H1=>∃i j:Int,vs=[.int i, .int j]∧(-(2 ^ 62)≤i∧i < 2 ^ 62∧ -(2 ^ 62)≤j∧j < 2 ^ 62)∧R (HD i (j - i).toNat) H1
theorem rK{a:Expr}{ta:TA}{p pos:Pos}(hg:Gl X "range")(hm:X.mg "range"=none)(ha:PA X [a] ta)(hs:starEach [a] X.env=[(false,eval a X.env)]:=by rfl):PI X tg (.Call (.Name "range" p) [a] [] pos) (k8 ta):=by
 intro pins s σ H R I h
 refine Call_ (mF I hg hm boot_range (PyProof.Rows.callWith_type1 (dN (ha pos pins s σ H _ I h) fun us s1 ⟨vs,H1,I1,r1,q1⟩=>?_) hs rfl))
 obtain⟨j,e,q1,q2,q⟩:=q1
 subst e
 cases r1 with
 | cons r rr=>
   cases rr
   obtain⟨t,rfl⟩:=r
   exact call_range_1 (Ag I1 (by omega) (by omega) q1 q2 (by simpa using q))
noncomputable def Jv(wi:TI)(g:TG)(tb:TS):TS:=fun D σ H=>wi σ H fun J H1=>∃W:Nat→Nat→St→Hp→Prop,(∃m,W 0 m σ H1)∧∀i m σ H,W i m σ H→
 (J.stop i H∧D.nx σ H)∨(J.go i H∧∃N:St→Hp→Prop,(∀σ' H',N σ' H'→∃m',m' < m∧W (i+1) m' σ' H')∧∀x H',J.yld i H x H'→g x σ H' fun σ2 H2=>tb {D with nx:=N,ct:=N,bk:=D.nx} σ2 H2)
noncomputable def mQ(fp:List Addr)(h:Heap):List (Addr × Obj):=fp.filterMap fun b=>(h.get? b).map fun o=>(b,o)
theorem jY{fp:List Addr}{h:Heap}{b:Addr}{o:Obj}(hb:b∈fp)(e:h.get? b=some o):(b,o)∈mQ fp h:=List.mem_filterMap.mpr ⟨b,hb,by rw[e];rfl⟩
theorem yQ{fp:List Addr}{h:Heap}{p:Addr × Obj}(hp:p∈mQ fp h):p.1∈fp∧h.get? p.1=some p.2:=by
 obtain⟨b,hb,e⟩:=List.mem_filterMap.mp hp
 cases q:h.get? b with
 | none=>rw [q] at e;cases e
 | some o=>
   rw[q] at e
   have e':(b,o)=p:=Option.some.inj e
   subst e'
   exact⟨hb,q⟩
theorem Inv.pinned{pins:List (Addr × Obj)}{σ:St}{H:Hp}{s:Shared}{fp:List Addr}(I:Inv X pins σ H s)(hf:∀b∈fp,pf X pins H b)(ho:∀b∈fp,∃o,s.heap.get? b=some o∧∀v,o.data≠ .cell v):Inv X (pins++mQ fp s.heap) σ H s:=
 I.yh fun p hp=>(List.mem_append.mp hp).elim (fun z=>I.pin p (List.mem_append_right _ z)) fun z=>by
  obtain⟨hb,e⟩:=yQ z
  obtain⟨f0,f1,f2,_⟩:=hf p.1 hb
  obtain⟨o,e',d⟩:=ho p.1 hb
  rw[e] at e';cases e'
  exact⟨e,f0,f1,f2,d⟩
theorem Inv.ni{pins pl:List (Addr × Obj)}{σ:St}{H:Hp}{s:Shared}(I:Inv X (pins++pl) σ H s):Inv X pins σ H s:=I.yh fun p hp=>I.pin p (List.mem_append_right _ (List.mem_append_left _ hp))
theorem AG{iter:Expr}{body:List Stmt}{wi:TI}{g:TG}{tb:TS}{pos:Pos}(hp:PassesOwn (model X.prog X.w) X.A X.env X.xe)(hc:X.calm=true)(hi:PI X tg iter wi)(hg:PG X tg g)(hb:ue X body tb)
 (hs:∀x,foldedSetIterable iter X.env x=pure x:=by intro _;rfl):PS X (.For tg iter body [] pos) (Jv wi g tb):=by
 intro pins s σ H D I h
 refine wpAny_For (dN (hi pins s σ H _ I h) fun v s1 h1=>dN h1 fun itv s2 h2=>?_) hs
 obtain⟨it,fp,tn,J,H2,e,I2,T,st2,f2,W,⟨m0,w0⟩,turn⟩:=h2
 subst e
 have stat:∀{H':Hp},(∀b∈fp,H' b=none)→∀b∈fp,pf X pins H' b:=fun hn b hb=>⟨hn b hb,(f2 b hb).2⟩
 refine codeAny_forLoop_any (fun n s'=>∃i σ' H',Inv X pins σ' H' s'∧tn i s'.heap∧(∀b∈fp,H' b=none)∧W i n σ' H') ?_ m0 ⟨0,σ,H2,I2,st2,fun b hb=>(f2 b hb).1,w0⟩
 rintro n s3 ⟨i,σ3,H3,I3,st3,fr3,w3⟩
 rcases turn i n σ3 H3 w3 with⟨stop,qn⟩ | ⟨go,N,hN,step⟩
 ·refine wpAny_passesOwn hp (dN (T.done X rfl rfl rfl hc i pins s3 σ3 H3 X.xe I3 (stat fr3) st3 stop) fun r s4 ⟨hr,I4⟩=>?_)
  subst hr
  exact wpAny_execs_nil ⟨σ3,H3,I4,qn⟩
 ·refine wpAny_passesOwn hp (dN (T.item X rfl rfl rfl hc i pins s3 σ3 H3 X.xe I3 (stat fr3) st3 go) fun r s4 ⟨u,hr,h4⟩=>?_)
  subst hr
  refine wpAny_passesOwn hp (dN h4 fun _ s5 ⟨x,H5,I5,r5,y5,st5,fr5⟩=>?_)
  have I5':=I5.pinned (stat fr5) (T.obj _ _ st5)
  refine wpAny_passesOwn hp (dN (hg _ s5 σ3 H5 x u _ I5' r5 (step x H5 y5)) fun _ s6 ⟨σ6,H6,I6,q6⟩=>?_)
  refine wpAny_passesOwn hp (dN (hb _ s6 σ6 H6 _ I6 q6) fun f s7 q7=>?_)
  have again:∀{σ7:St} {H7:Hp},Inv X (pins++mQ fp s5.heap) σ7 H7 s7→N σ7 H7→∃m,m < n∧∃i σ' H',Inv X pins σ' H' s7∧tn i s7.heap∧(∀b∈fp,H' b=none)∧W i m σ' H':=fun {σ7 H7} I7 n7=>by
   obtain⟨m',hm,w7⟩:=hN σ7 H7 n7
   refine⟨m',hm,i+1,σ7,H7,I7.ni,T.keep _ _ _ st5 fun b hb o e=>(I7.pin (b,o) (List.mem_append_right _ (List.mem_append_right _ (jY hb e)))).1,fun b hb=>?_,w7⟩
   obtain⟨o,e,d⟩:=T.obj _ _ st5 b hb
   exact(I7.pin (b,o) (List.mem_append_right _ (List.mem_append_right _ (jY hb e)))).2.1
  cases f with
  | next=>obtain⟨σ7,H7,I7,n7⟩:=q7;exact again I7 n7
  | cont=>obtain⟨σ7,H7,I7,n7⟩:=q7;exact again I7 n7
  | brk=>obtain⟨σ7,H7,I7,q7⟩:=q7;exact⟨σ7,H7,I7.ni,q7⟩
  | ret v=>obtain⟨x7,σ7,H7,I7,r7,q7⟩:=q7;exact⟨x7,σ7,H7,I7.ni,r7,q7⟩
end
end L2
namespace L2
open PySem PySem.Spec PyProof.Rows
noncomputable abbrev R2:=V→V→Hp→VK→Prop
noncomputable def k_(X:Cx)(f:Value→Value→Sem Value)(r:R2):Prop:=
 ∀(pins:List (Addr × Obj)) (s:Shared) (σ:St) (H:Hp) (x y:V) (v u:Value) (Q:VK),Inv X pins σ H s→RelV x v→RelV y u→r x y H Q→
  wpAny (model X.prog X.w) X.A (f v u) (EP X pins σ Q) X.xe s
noncomputable def Jl(X:Cx)(f:Value→Sem Value)(r:V→Hp→VK→Prop):Prop:=
 ∀(pins:List (Addr × Obj)) (s:Shared) (σ:St) (H:Hp) (x:V) (v:Value) (Q:VK),Inv X pins σ H s→RelV x v→r x H Q→
  wpAny (model X.prog X.w) X.A (f v) (EP X pins σ Q) X.xe s
noncomputable def nJ(X:Cx)(f:Value)(r:List V→Hp→VK→Prop):Prop:=
 ∀(pins:List (Addr × Obj)) (s:Shared) (σ:St) (H:Hp) (xs:List V) (us:List Value) (Q:VK),Inv X pins σ H s→Vals xs us→r xs H Q→
  wpAny (model X.prog X.w) X.A (call f us) (EP X pins σ Q) X.xe s
noncomputable def Jm(X:Cx)(r:V→Hp→(Bool→Hp→Prop)→Prop):Prop:=
 ∀(pins:List (Addr × Obj)) (s:Shared) (σ:St) (H:Hp) (x:V) (v:Value) (Q:Bool→Hp→Prop),Inv X pins σ H s→RelV x v→r x H Q→
  wpAny (model X.prog X.w) X.A (truthy v) (TP X pins σ Q) X.xe s
noncomputable def GX(r:R2)(ta tb:TE):TE:=fun σ H Q=>ta σ H fun x H1=>tb σ H1 fun y H2=>r x y H2 Q
noncomputable def LL(r:V→Hp→VK→Prop)(ta:TE):TE:=fun σ H Q=>ta σ H fun x H1=>r x H1 Q
noncomputable def rI(C:Int→Int→Prop)(g:Int→Int→V):R2:=fun x y H Q=>∃i j,x= .int i∧y= .int j∧C i j∧Q (g i j) H
noncomputable def zS(g:Int→Int→V):R2:=fun x y H Q=>∃i j,x= .int i∧y= .int j∧Q (g i j) H
noncomputable def rU(g:Int→V):V→Hp→VK→Prop:=fun x H Q=>∃i,x= .int i∧Q (g i) H
section
variable {X:Cx} {a b c:Expr} {ta tb tc:TE} {pos:Pos}
theorem Fw(ha:PE X a ta)(hb:PE X b tb){pins:List (Addr × Obj)}{s:Shared}{σ:St}{H:Hp}{R:V→V→Hp→Prop}(I:Inv X pins σ H s)
 (h:ta σ H fun x H1=>tb σ H1 fun y H2=>R x y H2) {Q:Value→Shared→Prop} {f:Value→Value→Sem Value}
 (hf:∀v u s2 x y H2,Inv X pins σ H2 s2→RelV x v→RelV y u→R x y H2→wpAny (model X.prog X.w) X.A (f v u) Q X.xe s2) :
 wpAny (model X.prog X.w) X.A (eval a X.env) (fun v s₁=>wpAny (model X.prog X.w) X.A (eval b X.env) (fun u s₂=>wpAny (model X.prog X.w) X.A (f v u) Q X.xe s₂) X.xe s₁) X.xe s:=by
 refine dN (ha pins s σ H _ I h) fun v s1 ⟨x,H1,I1,r1,q1⟩=>?_
 refine dN (hb pins s1 σ H1 _ I1 q1) fun u s2 ⟨y,H2,I2,r2,q2⟩=>?_
 exact hf v u s2 x y H2 I2 r1 r2 q2
theorem xG{op:Operator}{r:R2}(ho:k_ X (binaryOp op) r)(ha:PE X a ta)(hb:PE X b tb):PE X (.BinOp a op b pos) (GX r ta tb):=by
 intro pins s σ H Q I h
 exact wpAny_BinOp (Fw ha hb I h fun v u s2 x y H2 I2 rx ry q=>ho pins s2 σ H2 x y v u Q I2 rx ry q)
theorem Ib{op:UnaryOp}{r:V→Hp→VK→Prop}(ho:Jl X (unaryOp op) r)(ha:PE X a ta):PE X (.UnaryOp op a pos) (LL r ta):=by
 intro pins s σ H Q I h
 exact UnaryOp_ (dN (ha pins s σ H _ I h) fun v s1 ⟨x,H1,I1,r1,q1⟩=>ho pins s1 σ H1 x v Q I1 r1 q1)
theorem IA{f:Value→Value→Sem Value}{C:Int→Int→Prop}{g:Int→Int→Int}
 (rule:∀(i j:Int) (t u:Tok) (s:Shared) (Q:Value→Shared→Prop) (E:Value→Shared→Prop),C i j→Q (.int (g i j) s.toks) {s with toks:=s.toks+1}→wpAny (model X.prog X.w) X.A (f (.int i t) (.int j u)) Q E s) :
 k_ X f (rI C fun i j=> .int (g i j)):=by
 intro pins s σ H x y v u Q I rx ry h
 obtain⟨i,j,rfl,rfl,hc,q⟩:=h
 obtain⟨t,rfl⟩:=rx
 obtain⟨t',rfl⟩:=ry
 exact rule i j t t' s _ _ hc ⟨.int (g i j),H,I.tok _,⟨_,rfl⟩,q⟩
theorem Aq{f:Value→Value→Sem Value}{g:Int→Int→Int}
 (rule:∀(i j:Int) (t u:Tok) (s:Shared) (Q:Value→Shared→Prop) (E:Value→Shared→Prop),Q (.int (g i j) s.toks) {s with toks:=s.toks+1}→wpAny (model X.prog X.w) X.A (f (.int i t) (.int j u)) Q E s) :
 k_ X f (zS fun i j=> .int (g i j)):=by
 intro pins s σ H x y v u Q I rx ry h
 obtain⟨i,j,rfl,rfl,q⟩:=h
 obtain⟨t,rfl⟩:=rx
 obtain⟨t',rfl⟩:=ry
 exact rule i j t t' s _ _ ⟨.int (g i j),H,I.tok _,⟨_,rfl⟩,q⟩
theorem FQ{f:Value→Value→Sem Value}{g:Int→Int→Bool}
 (rule:∀(i j:Int) (t u:Tok) (s:Shared) (Q:Value→Shared→Prop) (E:Value→Shared→Prop),Q (.bool (g i j)) s→wpAny (model X.prog X.w) X.A (f (.int i t) (.int j u)) Q E s) :
 k_ X f (zS fun i j=> .bl (g i j)):=by
 intro pins s σ H x y v u Q I rx ry h
 obtain⟨i,j,rfl,rfl,q⟩:=h
 obtain⟨t,rfl⟩:=rx
 obtain⟨t',rfl⟩:=ry
 exact rule i j t t' s _ _ ⟨.bl (g i j),H,I,rfl,q⟩
noncomputable def K3(i j:Int):Prop:=0 < j∧j < 1073741824
noncomputable def Kk(i j:Int):Prop:=j≠0∧j.natAbs < 1073741824
noncomputable def JC(i j:Int):Prop:=0≤j∧j≤1000000∧i.natAbs < 2 ^ 64
noncomputable def GC(i j:Int):Prop:=(-(2 ^ 64) < i∧i < 2 ^ 64)∨(-(2 ^ 64) < j∧j < 2 ^ 64)
theorem GC.ok{i j:Int}(h:GC i j):IntMulOk i j:=by
 rcases h with⟨h1,h2⟩ | ⟨h1,h2⟩
 ·exact .of_left (intBits_le_64 h1 h2)
 ·exact .of_right (intBits_le_64 h1 h2)
theorem w9(k:Nat):(0:Int)≤2 ^ k:=by
 rw[two_pow_cast]
 exact Int.natCast_nonneg _
theorem EX:k_ X (binaryOp .Add) (zS fun i j=> .int (i+j)):=Aq fun _ _ _ _ _ _ _ q=>add_int q
theorem EZ:k_ X (binaryOp .Sub) (zS fun i j=> .int (i - j)):=Aq fun _ _ _ _ _ _ _ q=>sub_int q
theorem F8:k_ X (binaryOp .Mult) (rI GC fun i j=> .int (i*j)):=IA fun _ _ _ _ _ _ _ hc q=>mul_int q hc.ok
theorem EN:k_ X (binaryOp .Mod) (rI (fun _ j=>0 < j) fun i j=> .int (i % j)):=IA fun i j _ _ _ _ _ hc q=>by
 have h1:(0:Int) < j:=hc
 exact mod_int' (by omega) (by rw[Int.fmod_eq_emod_of_nonneg i (by omega)];exact q)
theorem GO:k_ X (binaryOp .Pow) (rI JC fun i j=> .int (i ^ j.toNat)):=IA fun _ _ _ _ _ _ _ hc q=>pow_int_small hc.1 hc.2.1 hc.2.2 q
theorem Gm:k_ X (binaryOp .RShift) (rI (fun _ j=>0≤j) fun i j=> .int (i / 2 ^ j.toNat)):=IA fun i j _ _ _ _ _ hc q=>
 rshift_int hc (by rw[Int.fdiv_eq_ediv_of_nonneg i (w9 _)];exact q)
theorem FR:k_ X (binaryOp .BitAnd) (zS fun i j=> .int (Builtin.bitAnd i j)):=Aq fun _ _ _ _ _ _ _ q=>and_int q
theorem ID:k_ X (binaryOp .BitOr) (zS fun i j=> .int (Builtin.bitOr i j)):=Aq fun _ _ _ _ _ _ _ q=>or_int q
theorem Fg:k_ X (binaryOp .BitXor) (zS fun i j=> .int (Builtin.bitXor i j)):=Aq fun _ _ _ _ _ _ _ q=>xor_int q
theorem La{f:Value→Sem Value}{g:Int→Int}
 (rule:∀(i:Int) (t:Tok) (s:Shared) (Q:Value→Shared→Prop) (E:Value→Shared→Prop),Q (.int (g i) s.toks) {s with toks:=s.toks+1}→wpAny (model X.prog X.w) X.A (f (.int i t)) Q E s) :
 Jl X f (rU fun i=> .int (g i)):=by
 intro pins s σ H x v Q I rx h
 obtain⟨i,rfl,q⟩:=h
 obtain⟨t,rfl⟩:=rx
 exact rule i t s _ _ ⟨.int (g i),H,I.tok _,⟨_,rfl⟩,q⟩
theorem ES:Jl X (unaryOp .USub) (rU fun i=> .int (-i)):=La fun _ _ _ _ _ q=>neg_int q
end
noncomputable def Iv:V→V→Bool
 | .cS, .cS=>true | .cS, .int _=>true | .int _, .cS=>true | .cS, .bl _=>true | .bl _, .cS=>true | .cS, .str _=>true | .str _, .cS=>true
 | .int _, .int _=>true | .bl _, .bl _=>true | .str _, .str _=>true | .byt _, .byt _=>true
 | .int _, .str _=>true | .str _, .int _=>true | .bl _, .str _=>true | .str _, .bl _=>true
 | _,_=>false
noncomputable def LA:R2:=fun x y H Q=>Iv x y=true∧Q (.bl (decide (x=y))) H
noncomputable def KW:R2:=fun x y H Q=>Iv x y=true∧Q (.bl (!decide (x=y))) H
theorem x9{i j:Int}:decide (V.int i=V.int j)=(i==j):=by
 rw[Bool.eq_iff_iff]
 simp
theorem AY{i j:Bool}:decide (V.bl i=V.bl j)=(i==j):=by
 rw[Bool.eq_iff_iff]
 simp
theorem xI{i j:Str}:decide (V.str i=V.str j)=(i==j):=by
 rw[Bool.eq_iff_iff]
 simp
theorem xO{i j:Array UInt8}:decide (V.byt i=V.byt j)=(i.toList==j.toList):=by
 rw[Bool.eq_iff_iff]
 cases i
 cases j
 simp
section
variable {X:Cx} {a b c:Expr} {ta tb tc:TE} {pos:Pos}
theorem cj{pins:List (Addr × Obj)}{σ:St}{H:Hp}{s:Shared}{Q:VK}{k k':Bool}(I:Inv X pins σ H s)(q:Q (.bl k) H)(e:k=k'):EP X pins σ Q (.bool k') s:=by
 subst e
 exact⟨.bl k,H,I,rfl,q⟩
theorem Aw:k_ X (compareOp .Eq) LA:=by
 intro pins s σ H x y v u Q I rx ry h
 obtain⟨hs,q⟩:=h
 cases x with
 | cS=>
   cases rx
   cases y with
   | cS=>cases ry;exact PySem.EqNone.eq_none_none (cj I q (by simp))
   | bl j=>cases ry;exact PySem.EqNone.eq_none_bool (cj I q (by simp))
   | int j=>obtain⟨t',rfl⟩:=ry;exact PySem.EqNone.eq_none_int (cj I q (by simp))
   | str j=>obtain⟨t',rfl⟩:=ry;exact PySem.EqNone.eq_none_str (cj I q (by simp))
   | _=>exact absurd (show false=true from hs) Bool.false_ne_true
 | bl i=>
   cases rx
   cases y with
   | cS=>cases ry;exact PySem.EqNone.eq_bool_none (cj I q (by simp))
   | bl j=>cases ry;exact eq_bool (cj I q AY)
   | str j=>obtain⟨t',rfl⟩:=ry;exact PySem.EqMixed.eq_bool_str (cj I q (by simp))
   | _=>exact absurd (show false=true from hs) Bool.false_ne_true
 | int i=>
   obtain⟨t,rfl⟩:=rx
   cases y with
   | cS=>cases ry;exact PySem.EqNone.eq_int_none (cj I q (by simp))
   | int j=>obtain⟨t',rfl⟩:=ry;exact eq_int (cj I q x9)
   | str j=>obtain⟨t',rfl⟩:=ry;exact PySem.EqMixed.eq_int_str (cj I q (by simp))
   | _=>exact absurd (show false=true from hs) Bool.false_ne_true
 | str i=>
   obtain⟨t,rfl⟩:=rx
   cases y with
   | cS=>cases ry;exact PySem.EqNone.eq_str_none (cj I q (by simp))
   | bl j=>cases ry;exact PySem.EqMixed.eq_str_bool (cj I q (by simp))
   | int j=>obtain⟨t',rfl⟩:=ry;exact PySem.EqMixed.eq_str_int (cj I q (by simp))
   | str j=>obtain⟨t',rfl⟩:=ry;exact eq_str (cj I q xI)
   | _=>exact absurd (show false=true from hs) Bool.false_ne_true
 | byt i=>
   obtain⟨t,rfl⟩:=rx
   cases y with
   | byt j=>obtain⟨t',rfl⟩:=ry;exact PySem.W.eq_bytes (cj I q xO)
   | _=>exact absurd (show false=true from hs) Bool.false_ne_true
 | _=>cases y <;> exact absurd (show false=true from hs) Bool.false_ne_true
theorem AW:k_ X (compareOp .NotEq) KW:=by
 intro pins s σ H x y v u Q I rx ry h
 obtain⟨hs,q⟩:=h
 cases x with
 | cS=>
   cases rx
   cases y with
   | cS=>cases ry;exact PySem.EqNone.ne_none_none (cj I q (by simp))
   | bl j=>cases ry;exact PySem.EqNone.ne_none_bool (cj I q (by simp))
   | int j=>obtain⟨t',rfl⟩:=ry;exact PySem.EqNone.ne_none_int (cj I q (by simp))
   | str j=>obtain⟨t',rfl⟩:=ry;exact PySem.EqNone.ne_none_str (cj I q (by simp))
   | _=>exact absurd (show false=true from hs) Bool.false_ne_true
 | bl i=>
   cases rx
   cases y with
   | cS=>cases ry;exact PySem.EqNone.ne_bool_none (cj I q (by simp))
   | bl j=>cases ry;exact ne_bool (cj I q (congrArg not AY))
   | str j=>obtain⟨t',rfl⟩:=ry;exact PySem.EqMixed.ne_bool_str (cj I q (by simp))
   | _=>exact absurd (show false=true from hs) Bool.false_ne_true
 | int i=>
   obtain⟨t,rfl⟩:=rx
   cases y with
   | cS=>cases ry;exact PySem.EqNone.ne_int_none (cj I q (by simp))
   | int j=>obtain⟨t',rfl⟩:=ry;exact ne_int (cj I q (congrArg not x9))
   | str j=>obtain⟨t',rfl⟩:=ry;exact PySem.EqMixed.ne_int_str (cj I q (by simp))
   | _=>exact absurd (show false=true from hs) Bool.false_ne_true
 | str i=>
   obtain⟨t,rfl⟩:=rx
   cases y with
   | cS=>cases ry;exact PySem.EqNone.ne_str_none (cj I q (by simp))
   | bl j=>cases ry;exact PySem.EqMixed.ne_str_bool (cj I q (by simp))
   | int j=>obtain⟨t',rfl⟩:=ry;exact PySem.EqMixed.ne_str_int (cj I q (by simp))
   | str j=>obtain⟨t',rfl⟩:=ry;exact ne_str (cj I q (congrArg not xI))
   | _=>exact absurd (show false=true from hs) Bool.false_ne_true
 | byt i=>
   obtain⟨t,rfl⟩:=rx
   cases y with
   | byt j=>obtain⟨t',rfl⟩:=ry;exact PySem.W.ne_bytes (cj I q (congrArg not xO))
   | _=>exact absurd (show false=true from hs) Bool.false_ne_true
 | _=>cases y <;> exact absurd (show false=true from hs) Bool.false_ne_true
theorem HQ:k_ X (compareOp .Lt) (zS fun i j=> .bl (decide (i < j))):=FQ fun _ _ _ _ _ _ _ q=>lt_int q
theorem Ih:k_ X (compareOp .Gt) (zS fun i j=> .bl (decide (j < i))):=FQ fun _ _ _ _ _ _ _ q=>gt_int q
theorem Hm:k_ X (compareOp .GtE) (zS fun i j=> .bl (decide (j≤i))):=FQ fun _ _ _ _ _ _ _ q=>ge_int q
theorem yO:k_ X (compareOp .In) (fun x y H Q=>∃i j,x= .str i∧y= .str j∧Q (.bl (!(Builtin.Str.occurrences j i 0 j.length 1).isEmpty)) H):=by
 intro pins s σ H x y v u Q I rx ry h
 obtain⟨i,j,rfl,rfl,q⟩:=h
 obtain⟨t,rfl⟩:=rx
 obtain⟨t',rfl⟩:=ry
 exact in_str (cj I q rfl)
theorem FY:k_ X (compareOp .Is) (fun x y H Q=>y= .cS∧Q (.bl (decide (x= .cS))) H):=by
 intro pins s σ H x y v u Q I rx ry h
 obtain⟨rfl,q⟩:=h
 cases ry
 refine is_none_gen (cj I q ?_)
 cases x <;> first
  | (cases rx;rfl)
  | (obtain⟨t,rfl⟩:=rx;rfl)
noncomputable def isObj:HO→Bool
 | .lst _=>true
 | .ins _ _ _=>true
 | _=>false
theorem ck(b:Expr){op:CmpOp}(h:op≠ .In:=by decide)(h2:op≠ .NotIn:=by decide):behindInMarks op b=false:=by
 have e1:(op==CmpOp.In)=false:=by cases op <;> first | rfl | exact absurd rfl h
 have e2:(op==CmpOp.NotIn)=false:=by cases op <;> first | rfl | exact absurd rfl h2
 cases b <;> simp [behindInMarks,e1,e2]
theorem DO{op:CmpOp}{r:R2}(ho:k_ X (compareOp op) r)(ha:PE X a ta)(hb:PE X b tb)(hm:behindInMarks op b=false):PE X (.Compare a [op] [b] pos) (GX r ta tb):=by
 intro pins s σ H Q I h
 exact wpAny_Compare1 (Fw ha hb I h fun v u s2 x y H2 I2 rx ry q=>ho pins s2 σ H2 x y v u Q I2 rx ry q) hm
noncomputable def HC(t:TE):TT:=fun σ H Q=>t σ H fun x H'=>∃k,x= .bl k∧Q k H'
theorem ya{op:CmpOp}{r:R2}(ho:k_ X (compareOp op) r)(ha:PE X a ta)(hb:PE X b tb)(hm:behindInMarks op b=false):PT X (.Compare a [op] [b] pos) (HC (GX r ta tb)):=by
 intro pins s σ H Q I h
 refine wpAny_isTrue_Compare1 (dN (ha pins s σ H _ I h) fun v s1 ⟨x,H1,I1,r1,q1⟩=>dN (hb pins s1 σ H1 _ I1 q1) fun u s2 ⟨y,H2,I2,r2,q2⟩=>
  dN (ho pins s2 σ H2 x y v u _ I2 r1 r2 q2) fun c s3 ⟨z,H3,I3,r3,k,e,q3⟩=>?_) hm
 subst e
 cases r3
 exact wpAny_truthy_bool ⟨H3,I3,q3⟩
noncomputable def JS(r r':R2)(ta tb tc:TE):TE:=fun σ H Q=>ta σ H fun x H1=>tb σ H1 fun y H2=>r x y H2 fun z H3=>∃k,z= .bl k∧
 (if k=true then tc σ H3 fun w' H4=>r' y w' H4 Q else Q (.bl false) H3)
noncomputable def Ga(K:PySem.W.Frag)(x:V)(H:Hp)(k:Bool):Prop:=
 match x with
 | .cS=>k=false
 | .bl b=>k=b
 | .int i=>k=(i !=0)
 | .str y=>y.length≤sizeLine∧k=((y.length:Int) !=0)
 | .byt y=>y.size≤sizeLine∧k=((y.size:Int) !=0)
 | .ref p=>(∃xs,nV K H p xs∧k=!xs.isEmpty)∨(∃xs,pC K H p xs∧k=!xs.isEmpty)∨∃kvs,H p=some (.dK kvs)∧k=!kvs.isEmpty
 | _=>False
theorem wV{κ:Type}{kvs:List (κ × V)}{vs:List (κ × Value)}(r:KV kvs vs):(!vs.isEmpty)=!kvs.isEmpty:=by
 cases r <;> rfl
theorem qp{xs:List V}{its:List Value}(r:Vals xs its):(!its.toArray.isEmpty)=!xs.isEmpty:=by
 cases r <;> simp
theorem ot:(sizeLine:Nat) < 2 ^ 63:=by rw[sizeLine_eq];decide
theorem Gi:Jm X (fun x H Q=>∃k,Ga X.K x H k∧Q k H):=by
 intro pins s σ H x v Q I rx h
 obtain⟨k,e,q⟩:=h
 have hl:=ot
 have hs:sizeLine=16777216:=sizeLine_eq
 cases x with
 | cS=>
   cases rx
   have e':k=false:=e
   subst e'
   exact truthy_none ⟨H,I,q⟩
 | bl b=>
   cases rx
   have e':k=b:=e
   subst e'
   exact wpAny_truthy_bool ⟨H,I,q⟩
 | int i=>
   obtain⟨t,rfl⟩:=rx
   have e':k=(i !=0):=e
   subst e'
   exact PySem.P.truthy_int ⟨H,I,q⟩
 | str y=>
   obtain⟨t,rfl⟩:=rx
   obtain⟨hy,e'⟩:y.length≤sizeLine∧k=((y.length:Int) !=0):=e
   subst e'
   exact PySem.P.truthy_str (by omega) ⟨H,I.tok _,q⟩
 | byt y=>
   obtain⟨t,rfl⟩:=rx
   obtain⟨hy,e'⟩:y.size≤sizeLine∧k=((y.size:Int) !=0):=e
   subst e'
   exact PySem.W.truthy_bytes (by omega) ⟨H,I.tok _,q⟩
 | ref p=>
   cases rx
   have e':(∃xs,nV X.K H p xs∧k=!xs.isEmpty)∨(∃xs,pC X.K H p xs∧k=!xs.isEmpty)∨∃kvs,H p=some (.dK kvs)∧k=!kvs.isEmpty:=e
   rcases e' with⟨xs,hx,e'⟩ | ⟨xs,hx,e'⟩ | ⟨kvs,hx,e'⟩
   ·subst e'
    obtain⟨its,r,pl,hz⟩:=I.list hx
    have hlen:=r.length
    exact wpAny_truthy_list pl.isList (by simp only[List.size_toArray];omega) ⟨H,I.tok _,by rw[qp r];exact q⟩
   ·subst e'
    obtain⟨its,r,pl,hz⟩:=I.tuple hx
    have hlen:=r.length
    exact truthy_tuple pl (by simp only[List.size_toArray];omega) ⟨H,I.tok _,by rw[qp r];exact q⟩
   ·subst e'
    obtain⟨hz,hS,vs,r,m⟩:kvs.length≤sizeLine∧(p==sysModules)=false∧∃vs,KV kvs vs∧s.heap.DictOf (dr X.prog X.w) p vs:=I.hok p _ hx
    have hlen:kvs.length=vs.length:=Paired.length r
    exact wpAny_truthy_dict hS m (by omega) ⟨H,I.tok _,by rw[wV r];exact q⟩
 | _=>exact(show False from e).elim
theorem Av(ha:PE X a ta)(he:∀whole,isTrue a X.env whole=(do let v ←whole;standAt a.pos;holding [v] (truthy v))) :
 PT X a (fun σ H Q=>ta σ H fun x H'=>∃k,Ga X.K x H' k∧Q k H'):=by
 intro pins s σ H Q I h
 exact isTrue_plain (dN (ha pins s σ H _ I h) fun v s1 ⟨x,H1,I1,r1,q1⟩=>Gi pins s1 σ H1 x v Q I1 r1 q1) (he _)
theorem vX:k_ X (binaryOp .Add) (fun x y H Q=>∃i j,x= .str i∧y= .str j∧i.length+j.length≤sizeLine∧Q (.str (i++j)) H):=by
 intro pins s σ H x y v u Q I rx ry h
 obtain⟨i,j,rfl,rfl,hz,q⟩:=h
 obtain⟨t,rfl⟩:=rx
 obtain⟨t',rfl⟩:=ry
 exact add_str (fun t' tk=>⟨.str (i++j),H,I.tok _,⟨_,rfl⟩,q⟩) hz
noncomputable def H_(b:Expr):Prop:=∀o i,subscripted b false o i=operate [o,i] (getItem o i)
theorem vals1{x:V}{us:List Value}(r:Vals [x] us):∃u,us=[u]∧RelV x u:=by
 cases r with
 | cons r1 r2=>cases r2;exact⟨_,rfl,r1⟩
theorem vals2{x y:V}{us:List Value}(r:Vals [x,y] us):∃u w',us=[u,w']∧RelV x u∧RelV y w':=by
 cases r with
 | cons r1 r2=>
   cases r2 with
   | cons r3 r4=>cases r4;exact⟨_,_,rfl,r1,r3⟩
theorem z9:nJ X (.builtin "abs") (fun xs H Q=>∃i,xs=[.int i]∧Q (.int (if i < 0 then -i else i)) H):=by
 intro pins s σ H xs us Q I r h
 obtain⟨i,rfl,q⟩:=h
 obtain⟨u,rfl,t,rfl⟩:=vals1 r
 exact call_abs_int fun u tk=>⟨.int (if i < 0 then -i else i),H,I.tok _,⟨_,rfl⟩,q⟩
theorem zi(hc:X.calm=true):nJ X (.builtin "max") (fun xs H Q=>∃i j,xs=[.int i, .int j]∧Q (.int (if j > i then j else i)) H):=by
 intro pins s σ H xs us Q I r h
 obtain⟨i,j,rfl,q⟩:=h
 obtain⟨u,w',rfl,⟨t,rfl⟩,⟨t',rfl⟩⟩:=vals2 r
 refine max_two_ints (I.ok.hd hc) fun h' tk k=>⟨_,H,I.kept k,?_,q⟩
 by_cases hj:j > i
 ·rw[if_pos hj,if_pos hj];exact⟨_,rfl⟩
 ·rw[if_neg hj,if_neg hj];exact⟨_,rfl⟩
theorem zo(hc:X.calm=true):nJ X (.builtin "min") (fun xs H Q=>∃i j,xs=[.int i, .int j]∧Q (.int (if j < i then j else i)) H):=by
 intro pins s σ H xs us Q I r h
 obtain⟨i,j,rfl,q⟩:=h
 obtain⟨u,w',rfl,⟨t,rfl⟩,⟨t',rfl⟩⟩:=vals2 r
 refine min_two_ints (I.ok.hd hc) fun h' tk k=>⟨_,H,I.kept k,?_,q⟩
 by_cases hj:j < i
 ·rw[if_pos hj,if_pos hj];exact⟨_,rfl⟩
 ·rw[if_neg hj,if_neg hj];exact⟨_,rfl⟩
noncomputable def Jt(K:PySem.W.Frag)(x:V)(H:Hp)(n:Nat):Prop:=
 match x with
 | .str y=>y.length≤sizeLine∧n=y.length
 | .byt y=>y.size≤sizeLine∧n=y.size
 | .ref p=>(∃xs,nV K H p xs∧n=xs.length)∨∃xs,pC K H p xs∧n=xs.length
 | _=>False
theorem Br:nJ X (.builtin "len") (fun xs H Q=>∃x n,xs=[x]∧Jt X.K x H n∧Q (.int n) H):=by
 intro pins s σ H xs us Q I r h
 obtain⟨x,n,rfl,e,q⟩:=h
 obtain⟨u,rfl,rx⟩:=vals1 r
 have hl:=ot
 have hs:sizeLine=16777216:=sizeLine_eq
 cases x with
 | str y=>
   obtain⟨t,rfl⟩:=rx
   obtain⟨hy,e'⟩:y.length≤sizeLine∧n=y.length:=e
   subst e'
   exact len_str (by omega) ⟨.int _,H,I.tok _,⟨_,rfl⟩,q⟩
 | byt y=>
   obtain⟨t,rfl⟩:=rx
   obtain⟨hy,e'⟩:y.size≤sizeLine∧n=y.size:=e
   subst e'
   exact PySem.W.len_bytes (by omega) ⟨.int _,H,I.tok _,⟨_,rfl⟩,q⟩
 | ref p=>
   cases rx
   have e':(∃xs,nV X.K H p xs∧n=xs.length)∨∃xs,pC X.K H p xs∧n=xs.length:=e
   rcases e' with⟨xs,hx,e'⟩ | ⟨xs,hx,e'⟩
   ·subst e'
    obtain⟨its,r',pl,hz⟩:=I.list hx
    have hlen:=r'.length
    exact Calls.call_len_list pl.isList (by simp only[List.size_toArray];omega) ⟨.int xs.length,H,I.tok _,⟨_,by simp only[List.size_toArray];rw [hlen]⟩,q⟩
   ·subst e'
    obtain⟨its,r',pl,hz⟩:=I.tuple hx
    have hlen:=r'.length
    exact len_tuple pl (by simp only[List.size_toArray];omega) ⟨.int xs.length,H,I.tok _,⟨_,by simp only[List.size_toArray];rw [hlen]⟩,q⟩
 | _=>exact(show False from e).elim
end
end L2
namespace L2
open PySem PySem.Spec PyProof.Rows
structure wk (h:Heap) (x dx C:Addr) (mA:Str→Option Value):Prop where
 obj:h.get? x=some (PySem.W.instObj C dx)
 ns:h.Ns1 dx mA
 ne:dx≠x
theorem zl{h:Heap}{dx:Addr}{mA:Str→Option Value}(n:h.Ns1 dx mA):∃od,h.get? dx=some od∧∀name,PySem.W.lookIn name od=some (mA name):=by
 obtain⟨o,es,ep,ho,hd,hk,_,hm⟩:=n
 refine⟨o,ho,fun name=>?_⟩
 have e:=hm name
 unfold nsFind findBy at e
 rw[←Array.find?_toList] at e
 unfold PySem.W.lookIn
 rw[hd]
 dsimp only
 split
 ·rename_i y q
  rw[q] at e
  exact congrArg some e
 ·rename_i q
  rw[q] at e
  have a:es.toList.any (·.refKey)=false:=by
   rw[List.any_eq_false]
   intro y hy
   obtain⟨z,t,hkey⟩:=hk y (Array.mem_toList_iff.mp hy)
   simp [DictEntry.refKey,hkey]
  have a':¬es.toList.any (·.refKey)=true:=by rw[a];exact Bool.false_ne_true
  rw[if_neg a']
  exact congrArg some e
theorem wk.look{h:Heap}{x dx C:Addr}{mA:Str→Option Value}(I:wk h x dx C mA):∃od,PySem.W.InstAt h x (PySem.W.instObj C dx) C (some od)∧∀name,PySem.W.lookIn name od=some (mA name):=
 let⟨od,ho,hl⟩:=zl I.ns
 ⟨od,⟨I.obj,rfl,rfl,ho⟩,hl⟩
section
variable {prog:Program} {w:World} {A:Around} {E:Value→Shared→Prop} {s:Shared} {K:PySem.W.Frag} {x dx C f:Addr} {mA:Str→Option Value} {name:Str} {v:Value}
theorem get_map{expr:Bool}{Q:Value→Shared→Prop}(X:K.In s.heap)(I:wk s.heap x dx C mA)(hg:PySem.W.plainGet K C name=true)(hh:PySem.W.hasDictIn K C=true)
 (ha:PySem.W.findIn K (.ref C) name=some none) (hv:mA name=some v) (hv':PySem.W.handedIn v=true) (h:Q v {s with toks:=s.toks+1}) :
 wpAny (model prog w) A (getAttr (.ref x) name expr) Q E s:=by
 obtain⟨od,J,hl⟩:=I.look
 exact PySem.W.get_value X J (PySem.W.plainGet_of hg).1 (PySem.W.findObj_own hh ha rfl (by rw[hl,hv])) hv' h
theorem Bu{pl:Sem Bool}{Q:Value × List Value→Shared→Prop}(X:K.In s.heap)(I:wk s.heap x dx C mA)(hg:PySem.W.plainGet K C name=true)
 (hf:PySem.W.findIn K (.ref C) name=some (some (.ref f))) (ht:PySem.W.isFn K (.ref f)=true) (hv:mA name=none) (h:Q (.ref f,[.ref x]) s) :
 wpAny (model prog w) A (getMethod (.ref x) name pl) Q E s:=by
 obtain⟨od,J,hl⟩:=I.look
 exact PySem.W.method_fn X J (PySem.W.plainGet_of hg).1 (PySem.W.plainGet_of hg).2 hf (beq_iff_eq.mp ht) (by show(PySem.W.lookIn name od).map (·.isSome)=some false;rw [hl,hv];rfl) h
theorem Dt{ns:List Str}{Q:Unit→Shared→Prop}(X:K.In s.heap)(I:wk s.heap x dx C mA)
 (hs:PySem.W.findIn K (.ref C) "__setattr__"=some (some (.builtin "object.__setattr__"))) (hp:PySem.W.plainOver K C=true) (ht:PySem.W.takerIn K C name=some none) (hh:PySem.W.hasDictIn K C=true)
 (hw:PySem.Within mA ns) (hsz:ns.length≤sizeLine)
 (h:∀h',wk h' x dx C (fun y=>if y=name then some v else mA y)→Heap.SameBut dx s.heap h'→Q () {s with heap:=h',toks:=s.toks+2}) :
 wpAny (model prog w) A (setAttr (.ref x) name v) Q E s:=by
 obtain⟨od,J,hl⟩:=I.look
 refine PySem.W.set_plain X J hs (PySem.W.osa_open (s:={s with toks:=s.toks+1}) (r:=none) X J hp ht fun b=>?_)
 obtain⟨cd,hc,hd'⟩:=PySem.W.any_some hh
 have hx:s.heap.get? x=some ⟨.ref C,some dx, .plain,#[]⟩:=I.obj
 refine wpAny_bind (wpAny_pure (wpAny_bind (wpAny_bind (wpAny_loadPart hx (wpAny_bind (PySem.W.Looks.here (s:={s with toks:=s.toks+1}) (PySem.W.looks_clsIn X hc) ?_))))))
 rw[hd']
 refine wpAny_pure (a:=some dx) (wpAny_bind (wpAny_pure (wpAny_bind ?_)))
 refine wpAny_nsSet1 (s:={s with toks:=s.toks+1}) I.ns fun h' hn2 hs2=>?_
 obtain⟨oD,esD,epD,hoD,hdD,hcD⟩:=hn2.count (PySem.Within.cons name v hw)
 refine wpAny_bind (wpAny_lookBehind hoD (by rw[hdD];exact pastItsLine_dict (Nat.le_trans hcD (by rw[List.length_cons];omega))) ?_)
 exact wpAny_pure (h _ ⟨(hs2.2 _ (Ne.symm I.ne)).trans I.obj,hn2,I.ne⟩ hs2)
theorem Bj{R:Result→Shared→Prop}{vs:List Value}{kw:List (Str × Value)}(X:K.In s.heap)(hm:PySem.W.makesIn K C=true)
 (hi:PySem.W.findIn K (.ref C) "__init__"=some (some (.ref f))) (hf:PySem.W.typeIn K (.ref f)=some (.type "function"))
 (h:codeAny (model prog w) (A.under (.builtin "type.__call__" ⟨.ref C ::vs,kw⟩)) (.call (.ref f) ⟨.ref (s.heap.objs.size+1) ::vs,kw⟩) (PySem.W.InitBack (s.heap.objs.size+1) R)
   {s with heap:=(s.heap.push PySem.W.emptyDict).push (PySem.W.instObj C s.heap.objs.size)}) :
 codeAny (model prog w) A (.call (.ref C) ⟨vs,kw⟩) R s:=by
 obtain⟨hh,g,d,t,os⟩:=s
 exact PySem.W.make_core (PySem.W.makes_of X hm) (PySem.W.looks_findIn X hi) (fun self=>PySem.W.bind_fn X self hf) (.inl rfl) h
end
noncomputable def jy(f:Str)(v:V):List (Str × V)→List (Str × V)
 | []=>[(f,v)]
 | (g,x) ::r=>if g=f then(g,v) ::r else(g,x) ::jy f v r
theorem oP(f g:Str)(v:V):∀fs:List (Str × V),(jy f v fs).lookup g=if g=f then some v else fs.lookup g
 | []=>by
   show List.lookup g [(f,v)]=_
   by_cases h:g=f
   ·have hb:(g==f)=true:=beq_iff_eq.mpr h
    simp only[List.lookup,hb,if_pos h]
   ·have hb:(g==f)=false:=beq_eq_false_iff_ne.mpr h
    simp only[List.lookup,hb,if_neg h]
 | (k,x) ::r=>by
   have ih:=oP f g v r
   rw[show jy f v ((k,x) ::r)=(if k=f then(k,v) ::r else(k,x) ::jy f v r) from rfl]
   by_cases hk:k=f
   ·rw[if_pos hk]
    by_cases h:g=k
    ·have hb:(g==k)=true:=beq_iff_eq.mpr h
     simp only[List.lookup,hb,if_pos (h.trans hk)]
    ·have hb:(g==k)=false:=beq_eq_false_iff_ne.mpr h
     simp only[List.lookup,hb,if_neg (fun e:g=f=>h (e.trans hk.symm))]
   ·rw[if_neg hk]
    by_cases h:g=k
    ·have hb:(g==k)=true:=beq_iff_eq.mpr h
     simp only[List.lookup,hb,if_neg (fun e:g=f=>hk (h.symm.trans e))]
    ·have hb:(g==k)=false:=beq_eq_false_iff_ne.mpr h
     simp only[List.lookup,hb]
     exact ih
theorem n_(f:Str)(v:V):∀fs:List (Str × V),f∈(jy f v fs).map (·.1)∧∀g,g∈fs.map (·.1)→g∈(jy f v fs).map (·.1)
 | []=>⟨by simp [jy],fun g h=>by simp at h⟩
 | (k,x) ::r=>by
   obtain⟨i1,i2⟩:=n_ f v r
   rw[show jy f v ((k,x) ::r)=(if k=f then(k,v) ::r else(k,x) ::jy f v r) from rfl]
   by_cases hk:k=f
   ·rw[if_pos hk]
    subst hk
    exact⟨by simp,fun g h=>by simpa using h⟩
   ·rw[if_neg hk]
    refine⟨?_,fun g h=>?_⟩
    ·rw[List.map_cons]
     exact List.mem_cons_of_mem _ i1
    ·rw[List.map_cons] at h ⊢
     rcases List.mem_cons.mp h with e | e
     ·exact List.mem_cons.mpr (.inl e)
     ·exact List.mem_cons_of_mem _ (i2 g e)
theorem oU(f:Str)(v:V):∀fs:List (Str × V),(jy f v fs).length≤fs.length+1
 | []=>by simp [jy]
 | (k,x) ::r=>by
   have ih:=oU f v r
   rw[show jy f v ((k,x) ::r)=(if k=f then(k,v) ::r else(k,x) ::jy f v r) from rfl]
   by_cases hk:k=f
   ·rw[if_pos hk,List.length_cons,List.length_cons];omega
   ·rw[if_neg hk,List.length_cons,List.length_cons];omega
theorem nM.some_of{v:V}{o:Option Value}(r:nM (some v) o):∃u,o=some u∧RelV v u:=by
 cases o with
 | none=>exact(show False from r).elim
 | some u=>exact⟨u,rfl,r⟩
theorem nM.none_of{o:Option Value}(r:nM none o):o=none:=by
 cases o with
 | none=>rfl
 | some u=>exact(show False from r).elim
theorem y7{v:V}{u:Value}(r:RelV v u):PySem.W.handedIn u=true:=by
 cases v with
 | cS=>cases(show u=Value.none from r);rfl
 | bl b=>cases(show u=Value.bool b from r);rfl
 | int i=>obtain⟨t,e⟩:=(show ∃t,u=Value.int i t from r);cases e;rfl
 | str x=>obtain⟨t,e⟩:=(show ∃t,u=Value.str x t from r);cases e;rfl
 | byt b=>obtain⟨t,e⟩:=(show ∃t,u=Value.bytes b t from r);cases e;rfl
 | flt b=>obtain⟨t,e⟩:=(show ∃t,u=Value.float b t from r);cases e;rfl
 | ref a=>cases(show u=Value.ref a from r);rfl
 | ty n=>cases(show u=Value.type n from r);rfl
section
variable {P:Program} {w:World} {H H':Hp} {h h':Heap} {a C dx:Addr} {fs fs':List (Str × V)}
theorem tL(hok:lX P w H h)(e:H a=some (.ins C dx fs)):∃mA,wk h a dx C mA∧(∀f,nM (fs.lookup f) (mA f))∧PySem.Within mA (fs.map (·.1))∧fs.length≤1000∧H dx=some (.own a):=by
 obtain⟨d,z,ne,ob,mA,n,r,q⟩:=(show fj P w H h a (.ins C dx fs) from hok a _ e)
 exact⟨mA,⟨ob,n,ne⟩,r,q,z,d⟩
end
structure ud (K:PySem.W.Frag) (C:Addr):Prop where
 pg:PySem.W.plainGet K C Str.empty=true
 hd:PySem.W.hasDictIn K C=true
 po:PySem.W.plainOver K C=true
 sa:PySem.W.findIn K (.ref C) "__setattr__"=some (some (.builtin "object.__setattr__"))
theorem ud.get{K:PySem.W.Frag}{C:Addr}(c:ud K C)(f:Str):PySem.W.plainGet K C f=true:=c.pg
noncomputable def c6(K:PySem.W.Frag)(C:Addr)(f:Str):Prop:=PySem.W.findIn K (.ref C) f=some none
theorem c6.Hf{K:PySem.W.Frag}{C:Addr}{f:Str}(n:c6 K C f):PySem.W.takerIn K C f=some none:=by
 unfold PySem.W.takerIn
 rw[show PySem.W.findIn K (.ref C) f=some none from n]
 rfl
structure Lh (K:PySem.W.Frag) (C:Addr) (f:Str) (v:V) (u:Value):Prop where
 at_:PySem.W.findIn K (.ref C) f=some (some u)
 rel:RelV v u
 get:PySem.W.specialIn K u "__get__"=some none
 cp:PySem.W.copiedNames.contains f=false
structure Meth (K:PySem.W.Frag) (C:Addr) (m:Str) (f:Addr):Prop where
 at_:PySem.W.findIn K (.ref C) m=some (some (.ref f))
 fn:PySem.W.isFn K (.ref f)=true
 kp:PySem.W.keepIn K (.ref f)=true
section
variable {X:Cx} {pins:List (Addr × Obj)} {σ:St} {H:Hp} {s:Shared} {a C dx:Addr} {fs:List (Str × V)} {f:Str} {v:V} {A:Around} {E:Value→Shared→Prop}
theorem xx{b:Bool}{Q:Value→Shared→Prop}(I:Inv X pins σ H s)(e:H a=some (.ins C dx fs))(c:ud X.K C)(n:c6 X.K C f)(l:fs.lookup f=some v)
 (h:∀u s',Inv X pins σ H s'→RelV v u→Q u s'):wpAny (model X.prog X.w) A (getAttr (.ref a) f b) Q E s:=by
 obtain⟨mA,O,r,_,_,_⟩:=tL I.hok e
 obtain⟨u,hu,ru⟩:=nM.some_of (v:=v) (o:=mA f) (by rw[←l];exact r f)
 exact get_map I.xE O (c.get f) c.hd n hu (y7 ru) (h u _ (I.tok _) ru)
theorem xk{m:Str}{g:Addr}{pl:Sem Bool}{Q:Value × List Value→Shared→Prop}(I:Inv X pins σ H s)(e:H a=some (.ins C dx fs))(c:ud X.K C)(k:Meth X.K C m g)(l:fs.lookup m=none)
 (h:Q (.ref g,[.ref a]) s):wpAny (model X.prog X.w) A (getMethod (.ref a) m pl) Q E s:=by
 obtain⟨mA,O,r,_,_,_⟩:=tL I.hok e
 have hn:mA m=none:=nM.none_of (by rw[←l];exact r m)
 exact Bu I.xE O (c.get m) k.at_ k.fn hn h
theorem wC{y:V}{u:Value}{Q:Unit→Shared→Prop}(I:Inv X pins σ H s)(e:H a=some (.ins C dx fs))(c:ud X.K C)(n:c6 X.K C f)(hl:fs.length < 1000)(ry:RelV y u)
 (h:∀s',Inv X pins σ (upd H a (.ins C dx (jy f y fs))) s'→Q () s'):wpAny (model X.prog X.w) A (setAttr (.ref a) f u) Q E s:=by
 obtain⟨mA,O,r,wi,_,ho⟩:=tL I.hok e
 have hz:(fs.map (·.1)).length≤sizeLine:=by rw[List.length_map,sizeLine_eq];omega
 refine Dt I.xE O c.sa c.po n.Hf c.hd wi hz fun h' O' sb=>h _ ?_
 have hd:∃o,h'.get? dx=some o:=let⟨o,_,_,e',_⟩:=O'.ns;⟨o,e'⟩
 refine I.write (x:=a) (e:=dx) (by rw[e];exact True.intro) (.inr ho) (fun b q hb z=>(sb.2 b hb).trans z) hd ?_
 refine⟨by rw[bf O.ne];exact ho,?_,O.ne,O'.obj,_,O'.ns,fun g=>?_,fun g hg=>?_⟩
 ·have:=oU f y fs;omega
 ·show nM ((jy f y fs).lookup g) (if g=f then some u else mA g)
  rw[oP]
  by_cases q:g=f
  ·rw[if_pos q,if_pos q];exact ry
  ·rw[if_neg q,if_neg q];exact r g
 ·by_cases q:g=f
  ·rw[q];exact(n_ f y fs).1
  ·refine(n_ f y fs).2 g (wi g fun z=>hg ?_)
   show(if g=f then some u else mA g)=none
   rw[if_neg q];exact z
theorem Inv.made(I:Inv X pins σ H s):Inv X pins σ (upd (upd H s.heap.objs.size (.own (s.heap.objs.size+1))) (s.heap.objs.size+1) (.ins C s.heap.objs.size []))
 {s with heap:=(s.heap.push PySem.W.emptyDict).push (PySem.W.instObj C s.heap.objs.size)}:=by
 have e1:(s.heap.push PySem.W.emptyDict).get? s.heap.objs.size=some PySem.W.emptyDict:=Heap.get?_push_size s.heap rfl
 have e2:((s.heap.push PySem.W.emptyDict).push (PySem.W.instObj C s.heap.objs.size)).get? (s.heap.objs.size+1)=some (PySem.W.instObj C s.heap.objs.size):=by
  have:=Heap.get?_push_size (s.heap.push PySem.W.emptyDict) (o:=PySem.W.instObj C s.heap.objs.size) rfl
  rwa [Heap.size_push] at this
 have e3:(s.heap.push PySem.W.emptyDict).Ns s.heap.objs.size (fun _=>none):=⟨PySem.W.emptyDict,#[],_,e1,rfl,(fun e he=>absurd he (by simp)),fun _=>rfl⟩
 have I1:=I.laid (a:=s.heap.objs.size) (o:= .own (s.heap.objs.size+1)) (h':=s.heap.push PySem.W.emptyDict) (t':=s.toks) (fun b u q=>Heap.get?_push_of_some _ q) (Nat.le_refl _) ⟨_,e1⟩
 refine I1.laid (a:=s.heap.objs.size+1) (o:= .ins C s.heap.objs.size []) (t':=s.toks) (fun b u q=>Heap.get?_push_of_some _ q) (Nat.le_of_eq (Heap.size_push _ _)) ?_
 have ne:s.heap.objs.size≠s.heap.objs.size+1:=Nat.ne_of_lt (Nat.lt_succ_self _)
 refine⟨by rw[bf ne,bc],Nat.zero_le _,ne,e2,fun _=>none,(Heap.Ns1.of_empty e3).at fun o q=>Heap.get?_push_of_some _ q,fun _=>True.intro,fun y hy=>absurd rfl hy⟩
theorem Dk{prog:Program}{w:World}{env:Env}{e:Expr}{f:Str}{pos:Pos}{s:Shared}{Q:Value→Shared→Prop}(hb:attributeBase e f env (eval e env)=eval e env)
 (h:wpAny (model prog w) A (eval e env) (fun o s₁=>wpAny (model prog w) A (getAttr o f true) Q E s₁) E s):wpAny (model prog w) A (eval (.Attribute e f pos) env) Q E s:=
 Attribute_any_ h (by rw[arm_eval_Attribute,hb])
end
noncomputable def JH(K:PySem.W.Frag)(ta:TE)(f:Str):TE:=fun σ H Q=>ta σ H fun x H1=>∃a C dx fs v,x= .ref a∧H1 a=some (.ins C dx fs)∧ud K C∧c6 K C f∧fs.lookup f=some v∧Q v H1
noncomputable def KH(K:PySem.W.Frag)(ta:TE)(f:Str):TE:=fun σ H Q=>ta σ H fun x H1=>∃a C dx fs v u,x= .ref a∧H1 a=some (.ins C dx fs)∧ud K C∧Lh K C f v u∧fs.lookup f=none∧Q v H1
noncomputable def JW(K:PySem.W.Frag)(ta tv:TE)(f:Str):TS:=fun D σ H=>tv σ H fun y H1=>ta σ H1 fun x H2=>∃a C dx fs,x= .ref a∧H2 a=some (.ins C dx fs)∧ud K C∧c6 K C f∧fs.length < 1000∧
 D.nx σ (upd H2 a (.ins C dx (jy f y fs)))
noncomputable def Lw(X:Cx)(op:Operator)(rd:V→V→Hp→VK→Prop):Prop:=
 ∀(pins:List (Addr × Obj)) (s:Shared) (σ:St) (H:Hp) (x y:V) (u v:Value) (Q:VK),Inv X pins σ H s→RelV x u→RelV y v→rd x y H Q→wpAny (model X.prog X.w) X.A (inplaceOp op u v) (EP X pins σ Q) X.xe s
noncomputable def IP(K:PySem.W.Frag)(ta tv:TE)(rd:V→V→Hp→VK→Prop)(f:Str):TS:=fun D σ H=>ta σ H fun x H1=>∃a C dx fs v,x= .ref a∧H1 a=some (.ins C dx fs)∧ud K C∧c6 K C f∧fs.lookup f=some v∧
 tv σ H1 fun y H2=>rd v y H2 fun z H3=>∃dx' fs',H3 a=some (.ins C dx' fs')∧fs'.length < 1000∧D.nx σ (upd H3 a (.ins C dx' (jy f z fs')))
section
variable {X:Cx} {o e value:Expr} {f:Str} {pos pos' tpos:Pos} {ta tv:TE}
theorem FP(he:PE X e ta)(hb:attributeBase e f X.env (eval e X.env)=eval e X.env):PE X (.Attribute e f pos) (JH X.K ta f):=by
 intro pins s σ H Q I h
 refine Dk hb (dN (he pins s σ H _ I h) fun u s1 ⟨x,H1,I1,rx,a,C,dx,fs,v,ex,ea,c,n,l,q⟩=>?_)
 subst ex
 obtain rfl:u=Value.ref a:=rx
 exact xx I1 ea c n l fun u' s2 I2 ru=>⟨v,H1,I2,ru,q⟩
theorem FF(ha:PE X o ta)(hv:PE X value tv)(hs:swapsWith value (some (.Attribute o f pos')) pos.line X.env=pure false):PS X (.Assign [.Attribute o f pos'] value pos) (JW X.K ta tv f):=by
 intro pins s σ H D I h
 refine plainObj_wpAny_Assign_Attribute (dN (hv pins s σ H _ I h) fun u s1 ⟨y,H1,I1,ry,q⟩=>dN (ha pins s1 σ H1 _ I1 q) fun ov s2 ⟨x,H2,I2,rx,a,C,dx,fs,ex,ea,c,n,l,q2⟩=>?_) hs
 subst ex
 obtain rfl:ov=Value.ref a:=rx
 exact wC I2 ea c n l ry fun s3 I3=>⟨σ,_,I3,q2⟩
noncomputable def LG:V→V→Hp→VK→Prop:=fun x y H Q=>∃i j,x= .int i∧y= .int j∧Q (.int (i+j)) H
noncomputable def Ld:V→V→Hp→VK→Prop:=fun x y H Q=>∃i j,x= .int i∧y= .int j∧Q (.int (i - j)) H
end
section
variable {X:Cx} {pins:List (Addr × Obj)} {σ:St} {H:Hp} {s:Shared} {A:Around} {E:Value→Shared→Prop} {Q:Value→Shared→Prop} {c:Value} {b:Bool}
inductive qy (K:PySem.W.Frag) (H:Hp):V→Value→Prop where
 | cS:qy K H .cS (.type "NoneType")
 | bl (x:Bool):qy K H (.bl x) (.type "bool")
 | int (i:Int):qy K H (.int i) (.type "int")
 | str (x:Str):qy K H (.str x) (.type "str")
 | flt (x:UInt64):qy K H (.flt x) (.type "float")
 | lst {a:Addr} {xs:List V} (e:H a=some (.lst xs)):qy K H (.ref a) (.type "list")
 | iS {a:Addr} {o:Obj} {xs:List V} (e:H a=some (.iS o (.lst xs))):qy K H (.ref a) (.type "list")
 | tup {a:Addr} {xs:List V} (e:H a=some (.tup xs)):qy K H (.ref a) (.type "tuple")
 | dK {a:Addr} {kvs:List (Key × V)} (e:H a=some (.dK kvs)):qy K H (.ref a) (.type "dict")
 | dT {a:Addr} {kvs:List (List Key × V)} (e:H a=some (.dT kvs)):qy K H (.ref a) (.type "dict")
 | ins {a C dx:Addr} {fs:List (Str × V)} (e:H a=some (.ins C dx fs)) (cl:ud K C) (ha:PySem.W.findIn K (.ref C) "__class__"=some (some (.builtin "object.__class__")))
    (hn:PySem.W.specialIn K (.builtin "object.__class__") "__get__"=some (some (.builtin "getset_descriptor.__get__"))) (htk:PySem.W.takesIn K (.builtin "object.__class__")=some true)
    (hm:PySem.W.mroIn K C (.type "object")=some true):qy K H (.ref a) (.ref C)
end
end L2
namespace L2
open PySem PySem.Spec PyProof.Rows
structure et (k:Nat) (A:Around):Prop where
 hd:A.handled=none
 dp:A.depth+3*k+5 < recursionLimit
 un:A.units+16*k+200 < cLine
theorem et.mono{j k:Nat}{A:Around}(r:et k A)(h:j≤k):et j A:=⟨r.hd,by have:=r.dp;omega,by have:=r.un;omega⟩
theorem et.deeper{k:Nat}{A:Around}(r:et (k+1) A)(env:Env):et k (A.deeper env):=
 ⟨r.hd,by have:=r.dp;show A.depth+1+3*k+5 < _;omega,by have:=r.un;show A.units+3+16*k+200 < _;omega⟩
theorem wF{A:Around}{C:Addr}{us:List Value}{kw:List (Str × Value)}:(A.under (.builtin "type.__call__" ⟨.ref C ::us,kw⟩)).depth=A.depth+1:=by
 first | rfl | simp [Around.under,Code.weight,Code.isCreation,Code.isGuard,Code.isCaller,Code.frames,Code.isFrame,guardIds]
theorem v_{A:Around}{C:Addr}{us:List Value}{kw:List (Str × Value)}:(A.under (.builtin "type.__call__" ⟨.ref C ::us,kw⟩)).units=A.units+1:=by
 first | rfl | simp [Around.under,Code.cUnits,Code.frames,Code.isFrame]
theorem et.make{k:Nat}{A:Around}(r:et (k+1) A)(C:Addr)(us:List Value)(kw:List (Str × Value)):et k (A.under (.builtin "type.__call__" ⟨.ref C ::us,kw⟩)):=
 ⟨r.hd,by have:=r.dp;rw [wF];omega,by have:=r.un;rw [v_];omega⟩
theorem et.depth{k:Nat}{A:Around}(r:et k A):A.depth < recursionLimit:=by have:=r.dp;omega
theorem et.units{k:Nat}{A:Around}(r:et k A):A.units+64 < cLine:=by have:=r.un;omega
noncomputable def JO:TA:=fun _ H Q=>Q [] H
noncomputable def Iz(ta:TE)(tr:TA):TA:=fun σ H Q=>ta σ H fun x H1=>tr σ H1 fun xs H2=>Q (x ::xs) H2
section
variable {X:Cx} {e:Expr} {es:List Expr} {te:TE} {t:TA} {pos:Pos}
theorem j2:PA X [] JO:=fun _ _ _ _ H Q I h=>Calls.spliced_nil ⟨[],H,I, .nil,h⟩
theorem ic(ha:PE X e te)(hr:PA X es t)(hs:starEach (e ::es) X.env=(false,eval e X.env) ::starEach es X.env:=by rfl):PA X (e ::es) (Iz te t):=by
 intro pos pins s σ H Q I h
 rw[hs]
 show wpAny _ _ (spliced ((false,eval e X.env) ::backTo pos (starEach es X.env))) _ _ s
 refine Calls.spliced_cons (dN (ha pins s σ H _ I h) fun u s1 ⟨x,H1,I1,r1,q1⟩=>?_)
 exact dN (hr pos pins s1 σ H1 _ I1 q1) fun us s2 ⟨xs,H2,I2,r2,q2⟩=>⟨x ::xs,H2,I2, .cons r1 r2,q2⟩
noncomputable def JJ(t:TA):TE:=fun σ H Q=>t σ H fun xs H1=>xs.length≤sizeLine∧∀p,H1 p=none→Q (.ref p) (upd H1 p (.tup xs))
noncomputable def IZ(t:TA):TE:=fun σ H Q=>t σ H fun xs H1=>xs.length≤sizeLine∧∀p,H1 p=none→Q (.ref p) (upd H1 p (.lst xs))
theorem AH{x1}(h:PA X es t):PE X (.Tuple es x1 pos) (JJ t):=by
 intro pins s σ H Q I hq
 refine wpAny_Tuple_spliced (dN (h pos pins s σ H _ I hq) fun us s1 ⟨xs,H1,I1,r,z,q⟩=>⟨by rw[←r.length];exact z,?_⟩)
 have hf:H1 s1.heap.objs.size=none:=I1.hok.fresh (Nat.le_refl _)
 refine⟨.ref s1.heap.objs.size,upd H1 s1.heap.objs.size (.tup xs),I1.laid (t':=s1.toks) (fun b u e=>Heap.get?_push_of_some _ e) (Nat.le_refl _) ?_,rfl,q _ hf⟩
 exact⟨z,us,r,⟨_,Heap.get?_push_size _ rfl,rfl,_,rfl⟩⟩
theorem Cg(h:PA X es t):PE X (.List es pos) (IZ t):=by
 intro pins s σ H Q I hq
 refine wpAny_List_spliced (dN (h pos pins s σ H _ I hq) fun us s1 ⟨xs,H1,I1,r,z,q⟩=>⟨by rw[←r.length];exact z,?_⟩)
 have hf:H1 s1.heap.objs.size=none:=I1.hok.fresh (Nat.le_refl _)
 refine⟨.ref s1.heap.objs.size,upd H1 s1.heap.objs.size (.lst xs),I1.laid (t':=s1.toks) (fun b u e=>Heap.get?_push_of_some _ e) (Nat.le_refl _) ?_,rfl,q _ hf⟩
 exact⟨z,us,0,r,Heap.get?_push_size _ rfl⟩
end
noncomputable abbrev Sp:=List V→Hp→VK→XK→Prop
noncomputable abbrev Ax:=List Env→Hp→Shared→XK→Value→Shared→Prop
structure wu (P:Program) (w:World) (K:PySem.W.Frag) (mg:Str→Option Value) (base:Heap) (A:Around) (outer:List Env) (s:Shared) (H:Hp):Prop where
 frames:A.frames=some outer
 mod:Mod K mg base
 bs:∀b o,base.get? b=some o→s.heap.get? b=some o∧H b=none
 bsz:base.objs.size≤s.heap.objs.size
 pe:s.heap.FunFrames base outer
 frf:∀b∈zP outer,H b=none
 hok:lX P w H s.heap
 bare:AllBare s.gens
noncomputable def CE(outer:List Env)(P:Program)(w:World)(H:Hp)(s:Shared)(Q:VK)(u:Value)(s':Shared):Prop:=
 ∃v H',s'.os=s.os∧AllBare s'.gens∧Un (zP outer) [] H H' s.heap s'.heap∧lX P w H' s'.heap∧RelV v u∧Q v H'
noncomputable def CR(CX:Ax)(outer:List Env)(P:Program)(w:World)(H:Hp)(s:Shared)(Q:VK)(E:XK)(r:Result)(s':Shared):Prop:=
 match r with
 | .ok (.ret u)=>CE outer P w H s Q u s'
 | .ok _=>False
 | .error e=>CX outer H s E e s'
structure ig (P:Program) (w:World) (K:PySem.W.Frag) (mg:Str→Option Value) (base:Heap) (CX:Ax) (k:Nat) (f:Addr) (fd:FuncData) (ps:List Str) (sp:Sp):Prop where
 len:∀vs H Q E,sp vs H Q E→vs.length=ps.length
 run:∀(A:Around) (outer:List Env) (s:Shared) (H:Hp) (args:Args) (us:List Value) (vs:List V) (Q:VK) (E:XK),et k A→wu P w K mg base A outer s H→BindsTo s fd args (ps.zip us)→Vals vs us→sp vs H Q E→
  codeAny (model P w) A (.call (.ref f) args) (CR CX outer P w H s Q E) s
theorem ig.imp{P:Program}{w:World}{K:PySem.W.Frag}{mg:Str→Option Value}{base:Heap}{CX:Ax}{k:Nat}{f:Addr}{fd:FuncData}{ps:List Str}{sp sp':Sp}(F:ig P w K mg base CX k f fd ps sp)
 (h:∀vs H Q E,sp' vs H Q E→sp vs H Q E):ig P w K mg base CX k f fd ps sp':=
 ⟨fun vs H Q E q=>F.len vs H Q E (h _ _ _ _ q),fun A outer s H args us vs Q E hr he hb hv hs=>F.run A outer s H args us vs Q E hr he hb hv (h _ _ _ _ hs)⟩
theorem wu.make{P:Program}{w:World}{K:PySem.W.Frag}{mg:Str→Option Value}{base:Heap}{A:Around}{outer:List Env}{s:Shared}{H:Hp}(e:wu P w K mg base A outer s H)(C:Addr)(us:List Value)(kw:List (Str × Value)) :
 wu P w K mg base (A.under (.builtin "type.__call__" ⟨.ref C ::us,kw⟩)) outer s H:=⟨by first | exact e.frames | (simpa [Around.under,Code.envs,Code.isFrame,pushEnvs] using e.frames),e.mod,e.bs,e.bsz,e.pe,e.frf,e.hok,e.bare⟩
section
variable {X:Cx} {pins:List (Addr × Obj)} {σ:St} {H:Hp} {s s':Shared}
theorem Inv.G6(I:Inv X pins σ H s):wu X.prog X.w X.K X.mg X.base X.A X.stack s H:=
 ⟨I.ok.frames,I.ok.mod,I.bs,Nat.le_trans I.ok.bsz I.sz,I.stack,I.x8,I.hok,I.bare⟩
theorem Inv.after{Q:VK}{u:Value}(I:Inv X pins σ H s)(h:CE X.stack X.prog X.w H s Q u s'):EP X pins σ Q u s':=by
 obtain⟨v,H',os,bare,un,hok,r,q⟩:=h
 obtain⟨hh,g,d,t,os'⟩:=s'
 obtain rfl:os'=s.os:=os
 exact⟨v,H',I.call (h':=hh) (g':=g) (d':=d) (t':=t) (ch:=[]) un hok bare (fun b z=>absurd z (by simp)),r,q⟩
end
noncomputable def Hv(sp:Sp)(dvs:List V)(E:XK)(t:TA):TE:=fun σ H Q=>t σ H fun vs H1=>sp (vs++dvs) H1 Q E
noncomputable def Hc(C:Addr)(m:Str)(sp:Sp)(dvs:List V)(E:XK)(ta:TE)(t:TA):TE:=fun σ H Q=>ta σ H fun x H1=>∃a dx fs,x= .ref a∧H1 a=some (.ins C dx fs)∧fs.lookup m=none∧
 t σ H1 fun vs H2=>sp (x ::(vs++dvs)) H2 Q E
noncomputable def HS(C:Addr)(sp:Sp)(dvs:List V)(E:XK)(t:TA):TE:=fun σ H Q=>t σ H fun vs H1=>∀x dx,H1 x=none→H1 dx=none→dx≠x→
 sp (.ref x ::(vs++dvs)) (upd (upd H1 dx (.own x)) x (.ins C dx [])) (fun v H2=>v= .cS∧Q (.ref x) H2) E
noncomputable def Binds(K:PySem.W.Frag)(fd:FuncData)(ps:List Str)(ds:List Value):Prop:=
 ∀(s:Shared) (us:List Value),K.In s.heap→(us++ds).length=ps.length→BindsTo s fd ⟨us,[]⟩ (ps.zip (us++ds))
theorem Binds.all{K:PySem.W.Frag}{fd:FuncData}{ps:List Str}(h:∀us:List Value,us.length=ps.length→bindArgs fd ⟨us,[]⟩=pure (ps.zip us)):Binds K fd ps []:=fun s us _ hl=>by
 rw[List.append_nil] at hl ⊢
 exact .of_eq (h us hl)
noncomputable def Passes(CX:Ax)(X:Cx)(E:XK):Prop:=∀(pins:List (Addr × Obj)) (σ:St) (H:Hp) (s:Shared) (e:Value) (s':Shared),Inv X pins σ H s→CX X.stack H s E e s'→X.xe e s'
section
variable {X:Cx} {CX:Ax} {k:Nat} {f C:Addr} {fd:FuncData} {ps:List Str} {sp:Sp} {dvs:List V} {ds:List Value} {E:XK} {x m:Str} {p pos apos:Pos} {e o:Expr} {es:List Expr} {ta:TE} {t:TA}
theorem Bp{pins:List (Addr × Obj)}{σ:St}{H:Hp}{s:Shared}{Q:VK}{us:List Value}{vs:List V}(F:ig X.prog X.w X.K X.mg X.base CX k f fd ps sp)(hr:et k X.A)(hb:Binds X.K fd ps ds)(hd:Vals dvs ds)(hx:Passes CX X E)
 (I:Inv X pins σ H s) (r:Vals vs us) (h:sp (vs++dvs) H Q E):wpAny (model X.prog X.w) X.A (call (.ref f) us) (EP X pins σ Q) X.xe s:=by
 have r2:Vals (vs++dvs) (us++ds):=r.append hd
 have hl:(us++ds).length=ps.length:=by rw[←r2.length];exact F.len _ _ _ _ h
 refine wpAny_call (codeAny_mono (F.run X.A X.stack s H ⟨us,[]⟩ (us++ds) (vs++dvs) Q E hr I.G6 (hb s us I.xE hl) r2 h) fun r s' hq=>?_)
 cases r with
 | error e=>exact hx pins σ H s e s' I hq
 | ok fl=>
   cases fl with
   | ret u=>exact I.after hq
   | next=>exact False.elim hq
   | brk=>exact False.elim hq
   | cont=>exact False.elim hq
theorem tF(F:ig X.prog X.w X.K X.mg X.base CX k f fd ps sp)(hr:et k X.A)(hg:Gl X x)(hm:X.mg x=some (.ref f))(hk:PySem.W.keepIn X.K (.ref f)=true)(hb:Binds X.K fd ps ds)(hd:Vals dvs ds)(hx:Passes CX X E)
 (ha:PA X (e ::es) t) (hdb:(x==("__debug__":Str))=false:=by decide) (he:starEach (e ::es) X.env=(false,eval e X.env) ::starEach es X.env:=by rfl) (hpl:(backTo pos (starEach es X.env)).any (·.1)=false:=by rfl) :
 PE X (.Call (.Name x p) (e ::es) [] pos) (Hv sp dvs E t):=by
 intro pins s σ H Q I h
 refine wpAny_Call_Name_kw (xS I hg hm ?_ hdb)
 refine PySem.W.callWith_K (h₀:=X.base) I.ok.mod.kin hk (dN (ha pos pins s σ H _ I h) fun us s1 ⟨vs,H1,I1,r,q⟩=>⟨I1.xE,?_⟩) he hpl
 exact Bp F hr hb hd hx I1 r q
theorem DA{pl:Sem Bool}(he:PE X o ta)(c:ud X.K C)(hm:Meth X.K C m f)(F:ig X.prog X.w X.K X.mg X.base CX k f fd ps sp)(hr:et k X.A)(hb:Binds X.K fd ps ds)(hd:Vals dvs ds)(hx:Passes CX X E)(ha:PA X (e ::es) t)
 (hst:starEach (e ::es) X.env=(false,eval e X.env) ::starEach es X.env:=by rfl) (hpl:(backTo pos (starEach es X.env)).any (·.1)=false:=by rfl)
 (ht:eval (.Call (.Attribute o m apos) (e ::es) [] pos) X.env=(do
   let ov ←eval o X.env
   standAt apos.atName
   let(f,first) ←holding [ov] (getMethod ov m pl)
   callWith pos f first (backTo pos (starEach (e ::es) X.env)) (backToKw pos (keywordEach [] X.env))):=by rfl) :
 PE X (.Call (.Attribute o m apos) (e ::es) [] pos) (Hc C m sp dvs E ta t):=by
 intro pins s σ H Q I h
 refine PySem.W.methodCall_KW (pl:=pl) (dN (he pins s σ H _ I h) fun u s1 ⟨x,H1,I1,rx,a,dx,fs,ex,ea,l,q⟩=>?_) ht
 subst ex
 obtain rfl:u=Value.ref a:=rx
 refine xk I1 ea c hm l ?_
 refine PySem.W.callWith_K (first:=[.ref a]) (h₀:=X.base) I.ok.mod.kin hm.kp (dN (ha pos pins s1 σ H1 _ I1 q) fun us s2 ⟨vs,H2,I2,r,q2⟩=>⟨I2.xE,?_⟩) hst hpl
 exact Bp (us:= .ref a ::us) (vs:= .ref a ::vs) F hr hb hd hx I2 (.cons rfl r) q2
structure Mk (K:PySem.W.Frag) (C f:Addr):Prop where
 makes:PySem.W.makesIn K C=true
 init:PySem.W.findIn K (.ref C) "__init__"=some (some (.ref f))
 fn:PySem.W.isFn K (.ref f)=true
 kp:PySem.W.keepIn K (.ref C)=true
theorem B8{pins:List (Addr × Obj)}{σ:St}{H:Hp}{s:Shared}{Q:VK}{us:List Value}{vs:List V}(M:Mk X.K C f)(F:ig X.prog X.w X.K X.mg X.base CX k f fd ps sp)(hr:et (k+1) X.A)(hb:Binds X.K fd ps ds)(hd:Vals dvs ds)
 (hx:Passes CX X E) (I:Inv X pins σ H s) (r:Vals vs us)
 (h:∀x dx,H x=none→H dx=none→dx≠x→sp (.ref x ::(vs++dvs)) (upd (upd H dx (.own x)) x (.ins C dx [])) (fun v H2=>v= .cS∧Q (.ref x) H2) E) :
 wpAny (model X.prog X.w) X.A (call (.ref C) us) (EP X pins σ Q) X.xe s:=by
 have hq:=h (s.heap.objs.size+1) s.heap.objs.size (I.hok.fresh (Nat.le_succ _)) (I.hok.fresh (Nat.le_refl _)) (Nat.ne_of_lt (Nat.lt_succ_self _))
 have I2:=Inv.made (C:=C) I
 have r2:Vals (V.ref (s.heap.objs.size+1) ::(vs++dvs)) (Value.ref (s.heap.objs.size+1) ::(us++ds)):= .cons rfl (r.append hd)
 have hl:(Value.ref (s.heap.objs.size+1) ::us++ds).length=ps.length:=by
  have e:=r2.length
  rw[F.len _ _ _ _ hq] at e
  exact e.symm
 refine wpAny_call (Bj (f:=f) I.xE M.makes M.init (beq_iff_eq.mp M.fn) (codeAny_mono (F.run _ X.stack _ _ ⟨Value.ref (s.heap.objs.size+1) ::us,[]⟩ (Value.ref (s.heap.objs.size+1) ::(us++ds)) _ _ E (hr.make C us [])
  (I2.G6.make C us []) (hb _ (Value.ref (s.heap.objs.size+1) ::us) I2.xE hl) r2 hq) fun r s' hq'=>?_))
 cases r with
 | error e=>exact hx pins σ _ _ e s' I2 hq'
 | ok fl=>
   cases fl with
   | ret u=>
     obtain⟨v,H',I3,rv,ev,q3⟩:=I2.after hq'
     subst ev
     exact⟨rv,⟨V.ref (s.heap.objs.size+1),H',I3,rfl,q3⟩⟩
   | next=>exact False.elim hq'
   | brk=>exact False.elim hq'
   | cont=>exact False.elim hq'
theorem Ee(M:Mk X.K C f)(F:ig X.prog X.w X.K X.mg X.base CX k f fd ps sp)(hr:et (k+1) X.A)(hg:Gl X x)(hm:X.mg x=some (.ref C))(hb:Binds X.K fd ps ds)(hd:Vals dvs ds)(hx:Passes CX X E)
 (ha:PA X (e ::es) t) (hdb:(x==("__debug__":Str))=false:=by decide) (he:starEach (e ::es) X.env=(false,eval e X.env) ::starEach es X.env:=by rfl) (hpl:(backTo pos (starEach es X.env)).any (·.1)=false:=by rfl) :
 PE X (.Call (.Name x p) (e ::es) [] pos) (HS C sp dvs E t):=by
 intro pins s σ H Q I h
 refine wpAny_Call_Name_kw (xS I hg hm ?_ hdb)
 refine PySem.W.callWith_K (h₀:=X.base) I.ok.mod.kin M.kp (dN (ha pos pins s σ H _ I h) fun us s1 ⟨vs,H1,I1,r,q⟩=>⟨I1.xE,?_⟩) he hpl
 exact B8 M F hr hb hd hx I1 r q
end
noncomputable def PK(X:Cx)(kws:List Keyword)(t:TA):Prop:=
 ∀(pos:Pos) (pins:List (Addr × Obj)) (s:Shared) (σ:St) (H:Hp) (Q:List V→Hp→Prop),Inv X pins σ H s→t σ H Q→wpAny (model X.prog X.w) X.A (evalAll ((backToKw pos (keywordEach kws X.env)).map (·.2))) (AP X pins σ Q) X.xe s
section
variable {X:Cx} {CX:Ax} {k:Nat} {f C:Addr} {fd:FuncData} {ps ks:List Str} {sp:Sp} {E:XK} {x m:Str} {p pos apos kpos:Pos} {e o:Expr} {es:List Expr} {kws:List Keyword} {te ta:TE} {t tk:TA} {nm:Option Str}
structure JN (K:PySem.W.Frag) (fd:FuncData) (ps ks:List Str) (g:List Value→List Value→List Value) (gV:List V→List V→List V):Prop where
 to:∀(s:Shared) (us ws:List Value),K.In s.heap→(g us ws).length=ps.length→BindsTo s fd ⟨us,ks.zip ws⟩ (ps.zip (g us ws))
 rel:∀{vs:List V} {us:List Value} {zs:List V} {ws:List Value},Vals vs us→Vals zs ws→Vals (gV vs zs) (g us ws)
noncomputable def Jq(sp:Sp)(gV:List V→List V→List V)(E:XK)(t tk:TA):TE:=fun σ H Q=>t σ H fun vs H1=>tk σ H1 fun zs H2=>sp (gV vs zs) H2 Q E
variable {g:List Value→List Value→List Value} {gV:List V→List V→List V}
end
structure aV (N P:List Str) (sc:Scope):Prop where
 kind:sc.kind= .function
 co:sc.isCoroutine=false
 gen:sc.isGenerator=false
 nd:N.Nodup
 pre:N.take P.length=P
 par:∀x∈P,sc.names.lookup x=some .local∨sc.names.lookup x=some .cell
 nofree:∀y∈sc.names,y.2≠ .free
theorem rR{kindOf:Str→Option NameKind}{x:Str}:∀{binds:List (Str × Value)} {m:Str→Option Value},(∀v,(x,v) ∉ binds)→bindL kindOf binds m x=m x
 | [],_,_=>rfl
 | (n,v) ::r,m,h=>by
   unfold bindL
   rw[rR fun w hw=>h w (List.mem_cons_of_mem _ hw)]
   split
   ·have:x≠n:=by rintro rfl;exact h v List.mem_cons_self
    simp [this]
   ·rfl
theorem sv{kindOf:Str→Option NameKind}{x:Str}:∀{binds:List (Str × Value)} {m:Str→Option Value},(∀v,(x,v) ∉ binds)→bindC kindOf binds m x=m x
 | [],_,_=>rfl
 | (n,v) ::r,m,h=>by
   unfold bindC
   rw[sv fun w hw=>h w (List.mem_cons_of_mem _ hw)]
   split
   ·rfl
   ·have:x≠n:=by rintro rfl;exact h v List.mem_cons_self
    simp [this]
theorem rV{kindOf:Str→Option NameKind}{x:Str}{v:Value}:∀{P:List Str} {vs:List Value} {i:Nat} {m:Str→Option Value},P.Nodup→P[i]? =some x→vs[i]? =some v→kindOf x=some .local→
 bindL kindOf (P.zip vs) m x=some v
 | [],_,_,_,_,h,_,_=>by simp at h
 | _ ::_,[],_,_,_,_,h,_=>by simp at h
 | p ::P,w ::vs,0,m,nd,h1,h2,hk=>by
   simp at h1 h2;subst h1;subst h2
   show bindL kindOf ((p,w) ::P.zip vs) m p=_
   unfold bindL
   rw[rR fun v hv=>(List.nodup_cons.mp nd).1 (List.of_mem_zip hv).1,if_pos hk]
   simp
 | p ::P,w ::vs,i+1,m,nd,h1,h2,hk=>by
   show bindL kindOf ((p,w) ::P.zip vs) m x=_
   unfold bindL
   exact rV (i:=i) (List.nodup_cons.mp nd).2 (by simpa using h1) (by simpa using h2) hk
theorem so{kindOf:Str→Option NameKind}{x:Str}{v:Value}:∀{P:List Str} {vs:List Value} {i:Nat} {m:Str→Option Value},P.Nodup→P[i]? =some x→vs[i]? =some v→kindOf x≠some .local→
 bindC kindOf (P.zip vs) m x=some v
 | [],_,_,_,_,h,_,_=>by simp at h
 | _ ::_,[],_,_,_,_,h,_=>by simp at h
 | p ::P,w ::vs,0,m,nd,h1,h2,hk=>by
   simp at h1 h2;subst h1;subst h2
   show bindC kindOf ((p,w) ::P.zip vs) m p=_
   unfold bindC
   rw[sv fun v hv=>(List.nodup_cons.mp nd).1 (List.of_mem_zip hv).1,if_neg hk]
   simp
 | p ::P,w ::vs,i+1,m,nd,h1,h2,hk=>by
   show bindC kindOf ((p,w) ::P.zip vs) m x=_
   unfold bindC
   exact so (i:=i) (List.nodup_cons.mp nd).2 (by simpa using h1) (by simpa using h2) hk
noncomputable def start(N:List Str)(vs:List V):St:=vs.map some++List.replicate (N.length - vs.length) none
noncomputable def qP(CX:Ax)(P:Program)(w:World)(K:PySem.W.Frag)(mg:Str→Option Value)(base:Heap)(N:List Str)(qual:Str)(scope:Scope)(f:Addr)(cd:Value)(A:Around)(outer:List Env)(s:Shared)(H:Hp)(E:XK):Cx where
 prog:=P
 w:=w
 K:=K
 mg:=mg
 base:=base
 A:=A.deeper (envOfC qual scope s.heap.objs.size f cd)
 N:=N
 s₀:=s
 H₀:=H
 env:=envOfC qual scope s.heap.objs.size f cd
 outer:=outer
 stack:=envOfC qual scope s.heap.objs.size f cd ::outer
 ex:=[]
 calm:=true
 fn:=fun _=>true
 pn:=[]
 xe:=fun e s'=>wpAny (model P w) (A.deeper (envOfC qual scope s.heap.objs.size f cd)) (leaving (envOfC qual scope s.heap.objs.size f cd) e) (fun _ s''=>CX outer H s E e s'') (fun e' s''=>CX outer H s E e' s'') s'
theorem u6{sc:Scope}{n:Nat}{x:Str}(h:sc.names.lookup x=some .cell):∃c,(cellsFrom n sc.names []).lookup x=some c:=by
 have q:=PySem.W.cellsFrom_some sc.names n [] (.inl h)
 exact Option.isSome_iff_exists.mp q
theorem yR{CX:Ax}{P:Program}{w:World}{K:PySem.W.Frag}{mg:Str→Option Value}{base:Heap}{N ps:List Str}{qual:Str}{scope:Scope}{f:Addr}{cd:Value}{A:Around}{outer:List Env}{s s1:Shared}{H:Hp}{E:XK}{us:List Value}{vs:List V}
 (S:aV N ps scope) (hd:A.handled=none) (e0:wu P w K mg base A outer s H) (hl:vs.length=ps.length) (r:Vals vs us)
 (x:InCallC s s.heap.objs.size (bindL (envOfC qual scope s.heap.objs.size f cd).kindOf (ps.zip us) fun _=>none) (cellsFrom (s.heap.objs.size+1) scope.names []) (bindC (envOfC qual scope s.heap.objs.size f cd).kindOf (ps.zip us) fun _=>none) s1) :
 Inv (qP CX P w K mg base N qual scope f cd A outer s H E) [] (start N vs) H s1:=by
 have hpl:ps.length≤N.length:=by have:=congrArg List.length S.pre;rw [List.length_take] at this;omega
 obtain⟨h1,tk,rfl,hk⟩:=x.done
 have noA:∀b:Addr,b ∉ (qP CX P w K mg base N qual scope f cd A outer s H E).ex:=fun b z=>absurd (show b∈([]:List Addr) from z) (by simp)
 refine⟨⟨e0.mod,S.kind,rfl,rfl,Nat.le_refl _,fun y z c h1 h2=>?_,fun y hy=>?_,fun y c _ h=>?_,fun _=>hd,Around.frames_deeper e0.frames, .inr ⟨rfl,rfl⟩,fun b z=>absurd z (noA b),e0.bs,e0.bsz,fun b _ _=>noA b,fun b z=>absurd z (noA b),e0.pe,e0.frf⟩,
  rfl,e0.bare,Un.kept hk,⟨_,x.toInCall.ns,fun i y v h1 h2 h3=>?_⟩,fun y c h=>⟨_,x.cell y c h⟩,e0.hok.fresh (Nat.le_refl _),fun y c h=>?_,fun p hp=>absurd (show p∈([]:List (Addr × Obj)) from hp) (by simp),e0.hok.kept hk,?_⟩
 ·exact name_of_addr x.apart (PySem.mem_of_lookup h1) (PySem.mem_of_lookup h2)
 ·have hy:scope.names.lookup y=some .cell∨scope.names.lookup y=some .free:=hy
  rcases hy with hy | hy
  ·exact u6 hy
  ·exact absurd rfl (S.nofree _ (PySem.mem_of_lookup hy))
 ·exact Nat.le_of_lt (x.above y c (PySem.mem_of_lookup h))
 ·have hi:i < vs.length:=by
   unfold start at h2
   by_cases hi:i < vs.length
   ·exact hi
   ·rw[List.getElem?_append_right (by simpa using hi)] at h2
    rw[List.getElem?_replicate] at h2
    split at h2 <;> cases h2
  have ha:vs[i]? =some v:=by
   unfold start at h2
   rw[List.getElem?_append_left (by simpa using hi),List.getElem?_map] at h2
   cases e:vs[i]? with
   | none=>rw [e] at h2;cases h2
   | some a=>rw [e] at h2;cases h2;rfl
  obtain⟨u,hu,rv⟩:=r.get ha
  have hp:ps[i]? =some y:=by
   rw[←S.pre,List.getElem?_take_of_lt (by omega)];exact h1
  have ndP:ps.Nodup:=by rw[←S.pre];exact S.nd.sublist (List.take_sublist _ _)
  refine⟨u,rv,?_⟩
  rcases S.par y (List.mem_of_getElem? hp) with k | k
  ·exact .inl ⟨k,rV ndP hp hu k⟩
  ·obtain⟨c,e⟩:=u6 (n:=s.heap.objs.size+1) k
   refine .inr ⟨.inl k,c,e,?_⟩
   have q:=x.cell y c e
   rw[so ndP hp hu (by show scope.names.lookup y≠_;rw [k];decide)] at q
   exact q
 ·exact e0.hok.fresh (Nat.le_of_lt (x.above y c (PySem.mem_of_lookup h)))
 ·unfold start
  show _=N.length
  rw[List.length_append,List.length_map,List.length_replicate]
  omega
theorem Ho{CX:Ax}{P:Program}{w:World}{K:PySem.W.Frag}{mg:Str→Option Value}{base:Heap}{k:Nat}{f:Addr}{name qual:Str}{params:Arguments}{body:List Stmt}{scope:Scope}{dV kV doc pm cdv ct oc:Value}{an od:Option Addr}
 {osl:Array (Option Value)} {N ps:List Str} {sp:Sp} (lk:K.lookup f=some ⟨oc,od, .func (PySem.W.fnOf name qual params body scope dV kV doc pm an cdv ct),osl⟩) (hcd:PySem.W.codeIn K cdv qual=true) (S:aV N ps scope)
 (len:∀vs H Q E,sp vs H Q E→vs.length=ps.length)
 (hbody:∀(A:Around) (outer:List Env) (s:Shared) (H:Hp) (vs:List V) (Q:VK) (E:XK),et k (A.deeper (envOfC qual scope s.heap.objs.size f cdv))→sp vs H Q E→
   ∃t,ue (qP CX P w K mg base N qual scope f cdv A outer s H E) body t∧t {nx:=fun _ H'=>Q .cS H',rt:=Q} (start N vs) H) :
 ig P w K mg base CX (k+1) f (PySem.W.fnOf name qual params body scope dV kV doc pm an cdv ct) ps sp:=by
 refine⟨len,fun A outer s H args us vs Q E hr e0 hb r hsp=>?_⟩
 have hl:=len _ _ _ _ hsp
 have KX:K.In s.heap:=e0.mod.kin.keeps fun b o e=>(e0.bs b o e).1
 have lim:s.heap.NoLimit:=e0.mod.nolimit.keeps fun b o e=>(e0.bs b o e).1
 have hkind:∀y∈ps.zip us,scope.names.lookup y.1=some .local∨(scope.names.lookup y.1=some .cell∧((cellsFrom (s.heap.objs.size+1) scope.names []).lookup y.1).isSome=true):=fun⟨n,v⟩ hy=>by
  rcases S.par n (List.of_mem_zip hy).1 with q | q
  ·exact .inl q
  ·exact .inr ⟨q,PySem.W.cellsFrom_some _ _ _ (.inl q)⟩
 refine codeAny_call_function hr.depth (KX _ _ lk) rfl S.co S.gen rfl (PySem.W.codeRec_of KX hcd) (hb _ _ _ _ ?_)
 refine wpAny_newFunctionEnv_cells S.kind hkind fun env he s1 x=>?_
 subst he
 refine⟨lim.keeps x.toInCall.keep,codeAny_func ?_⟩
 obtain⟨t,ht,hq⟩:=hbody A outer s H vs Q E (hr.deeper _) hsp
 have I:Inv (qP CX P w K mg base N qual scope f cdv A outer s H E) [] (start N vs) H s1:=yR S hr.hd e0 hl r x
 refine wpAny_mono (ht [] s1 (start N vs) H _ I hq) (fun fl s' hs=>?_) fun e s' hs=>hs
 have fin:∀{σ':St} {H':Hp} {v:V} {u:Value},Inv (qP CX P w K mg base N qual scope f cdv A outer s H E) [] σ' H' s'→RelV v u→Q v H'→CE outer P w H s Q u s':=
  fun {σ' H' v u} J rv q=>⟨v,H',J.os,J.bare,J.base,J.hok,rv,q⟩
 cases fl with
 | ret u=>
   obtain⟨v,σ',H',J,rv,q⟩:=hs
   exact fin J rv q
 | next=>
   obtain⟨σ',H',J,q⟩:=hs
   exact fin (v:=V.cS) (u:=Value.none) J rfl q
 | brk=>
   obtain⟨_,_,_,q⟩:=hs
   exact False.elim q
 | cont=>
   obtain⟨_,_,_,q⟩:=hs
   exact False.elim q
end L2
namespace L2
open PySem PySem.Spec PyProof.Rows
section
variable {X:Cx} {x:Str} {p pos:Pos} {e:Expr} {es:List Expr} {t:TA} {id T:String} {r:List V→Hp→VK→Prop}
noncomputable def Kp(r:List V→Hp→VK→Prop)(t:TA):TE:=fun σ H Q=>t σ H fun vs H1=>r vs H1 Q
theorem vA(hc:nJ X (.builtin id) r)(hg:Gl X x)(hm:X.mg x=none)(hv:bootBuiltins x=some (.builtin id))(ha:PA X (e ::es) t)(hn:x≠"__name__":=by decide)(hdb:(x==("__debug__":Str))=false:=by decide)
 (he:starEach (e ::es) X.env=(false,eval e X.env) ::starEach es X.env:=by rfl) (hpl:(backTo pos (starEach es X.env)).any (·.1)=false:=by rfl):PE X (.Call (.Name x p) (e ::es) [] pos) (Kp r t):=by
 intro pins s σ H Q I h
 refine wpAny_Call_Name_kw (mF I hg hm hv ?_ hn hdb)
 exact PyProof.Rows.callWith_builtin1 (dN (ha pos pins s σ H _ I h) fun us s1 ⟨vs,H1,I1,r1,q1⟩=>hc pins s1 σ H1 vs us Q I1 r1 q1) he hpl
theorem zB(hc:nJ X (.type T) r)(hg:Gl X x)(hm:X.mg x=none)(hv:bootBuiltins x=some (.type T))(ha:PA X (e ::es) t)(hn:x≠"__name__":=by decide)(hdb:(x==("__debug__":Str))=false:=by decide)
 (he:starEach (e ::es) X.env=(false,eval e X.env) ::starEach es X.env:=by rfl) (hpl:(backTo pos (starEach es X.env)).any (·.1)=false:=by rfl):PE X (.Call (.Name x p) (e ::es) [] pos) (Kp r t):=by
 intro pins s σ H Q I h
 refine wpAny_Call_Name_kw (mF I hg hm hv ?_ hn hdb)
 exact PyProof.Rows.callWith_type1 (dN (ha pos pins s σ H _ I h) fun us s1 ⟨vs,H1,I1,r1,q1⟩=>hc pins s1 σ H1 vs us Q I1 r1 q1) he hpl
end
end L2
namespace L2
open PySem PySem.Spec PyProof.Rows
section
variable {κ:Type} [DecidableEq κ]
noncomputable def k7(kvs:List (κ × V))(k:κ):Option V:=(kvs.find? fun kv=>decide (kv.1=k)).map (·.2)
noncomputable def putK(kvs:List (κ × V))(k:κ)(v:V):List (κ × V):=
 if(kvs.any fun kv=>decide (kv.1=k))=true then kvs.map (fun kv=>if kv.1=k then(kv.1,v) else kv) else kvs++[(k,v)]
noncomputable def Ck(kvs:List (κ × V))(k:κ):List (κ × V):=kvs.filter fun kv=>decide (kv.1≠k)
theorem vq{p:κ × V}{r:List (κ × V)}{k:κ}(e:p.1=k):k7 (p ::r) k=some p.2:=by simp [k7,List.find?_cons,e]
theorem uz{p:κ × V}{r:List (κ × V)}{k:κ}(e:¬p.1=k):k7 (p ::r) k=k7 r k:=by simp [k7,List.find?_cons,e]
theorem vt(kvs:List (κ × V))(k:κ)(v:V):(putK kvs k v).length≤kvs.length+1:=by
 unfold putK
 split
 ·rw[List.length_map];omega
 ·rw[List.length_append,List.length_cons,List.length_nil];omega
theorem nM.getD{o:Option V}{u:Option Value}{d:V}{d':Value}(r:nM o u)(rd:RelV d d'):RelV (o.getD d) (u.getD d'):=by
 cases o with
 | none=>cases u with
   | none=>exact rd
   | some _=>exact(show False from r).elim
 | some _=>cases u with
   | none=>exact(show False from r).elim
   | some _=>exact r
theorem KV.val{kvs:List (κ × V)}{vs:List (κ × Value)}(r:KV kvs vs)(k:κ):nM (k7 kvs k) (valueAt vs k):=by
 unfold KV at r
 induction r with
 | nil=>exact True.intro
 | @cons p q ps qs h t ih=>
   obtain⟨h1,h2⟩:=h
   by_cases e:p.1=k
   ·have e':q.1=k:=h1.symm.trans e
    have b:valueAt (q ::qs) k=some q.2:=by simp [valueAt,List.find?_cons,e']
    rw[vq e,b];exact h2
   ·have e':¬q.1=k:=fun z=>e (h1.trans z)
    have b:valueAt (q ::qs) k=valueAt qs k:=by simp [valueAt,List.find?_cons,e']
    rw[uz e,b];exact ih
theorem KV.any{kvs:List (κ × V)}{vs:List (κ × Value)}(r:KV kvs vs)(k:κ):(kvs.any fun kv=>decide (kv.1=k))=vs.any fun kv=>decide (kv.1=k):=by
 unfold KV at r
 induction r with
 | nil=>rfl
 | cons h t ih=>rw [List.any_cons,List.any_cons,ih,h.1]
theorem KV.JI{kvs:List (κ × V)}{vs:List (κ × Value)}(r:KV kvs vs)(k:κ){y:V}{u:Value}(ry:RelV y u) :
 KV (kvs.map fun kv=>if kv.1=k then(kv.1,y) else kv) (vs.map fun kv=>if kv.1=k then(kv.1,u) else kv):=by
 unfold KV at r ⊢
 induction r with
 | nil=>exact .nil
 | @cons p q ps qs h t ih=>
   rw[List.map_cons,List.map_cons]
   refine .cons ?_ ih
   obtain⟨h1,h2⟩:=h
   by_cases e:p.1=k
   ·rw[if_pos e,if_pos (h1.symm.trans e)];exact⟨h1,ry⟩
   ·rw[if_neg e,if_neg (fun z=>e (h1.trans z))];exact⟨h1,h2⟩
theorem KV.put{kvs:List (κ × V)}{vs:List (κ × Value)}(r:KV kvs vs)(k:κ){y:V}{u:Value}(ry:RelV y u):KV (putK kvs k y) (stored vs k u):=by
 unfold putK stored
 rw[r.any k]
 by_cases e:(vs.any fun kv=>decide (kv.1=k))=true
 ·rw[if_pos e,if_pos e];exact r.JI k ry
 ·rw[if_neg e,if_neg e];exact Paired.snoc r ⟨rfl,ry⟩
end
theorem Ae{P:Program}{w:World}{k:Key}{u:Value}(r:RelV (kV k) u):(dr P w).is k u=true:=by
 cases k with
 | inl i=>obtain⟨t,e⟩:=(show ∃t,u=Value.int i t from r);subst e;exact vp P w i t
 | inr x=>obtain⟨t,e⟩:=(show ∃t,u=Value.str x t from r);subst e;exact uT P w x t
theorem sr{P:Program}{w:World}:∀{ks:List Key} {us:List Value},Vals (ks.map kV) us→ItemsAre (dr P w) ks us
 | [],_,r=>by rw[List.map_nil] at r;cases r;exact .nil
 | k ::ks,_,r=>by
   rw[List.map_cons] at r
   cases r with
   | cons h t=>exact .cons (Ae h) (sr t)
noncomputable abbrev KT(H:Hp):List (List Key × V)→List (List Key × Addr × Value)→Prop:=Paired fun p q=>p.1=q.1∧H q.2.1=some (.tup (p.1.map kV))∧RelV p.2 q.2.2
theorem KT.val{H:Hp}{kvs:List (List Key × V)}{xs:List (List Key × Addr × Value)}(r:KT H kvs xs)(k:List Key):nM (k7 kvs k) ((atKey xs k).map (·.2)):=by
 induction r with
 | nil=>exact True.intro
 | @cons p q ps qs h t ih=>
   obtain⟨h1,_,h2⟩:=h
   by_cases e:p.1=k
   ·have e':q.1=k:=h1.symm.trans e
    have b:atKey (q ::qs) k=some q.2:=by simp [atKey,List.find?_cons,e']
    rw[vq e,b];exact h2
   ·have e':¬q.1=k:=fun z=>e (h1.trans z)
    have b:atKey (q ::qs) k=atKey qs k:=by simp [atKey,List.find?_cons,e']
    rw[uz e,b];exact ih
section
variable {P:Program} {w:World} {H:Hp} {h:Heap} {a:Addr}
theorem Ej{u:HO}(ok:lX P w H h)(e:Rd H a u):fj P w H h a u:=e.ok ok
theorem A9{kvs:List (Key × V)}(ok:lX P w H h)(e:Rd H a (.dK kvs)):kvs.length≤sizeLine∧(a==sysModules)=false∧∃vs,KV kvs vs∧h.DictOf (dr P w) a vs:=
 show fj P w H h a (.dK kvs) from Ej ok e
theorem HL{kvs:List (Key × V)}(ok:lX P w H h)(e:H a=some (.dK kvs)):kvs.length≤sizeLine∧(a==sysModules)=false∧∃vs,KV kvs vs∧h.DictOf (dr P w) a vs:=A9 ok (.inl e)
theorem Aj{ks:List Key}(ok:lX P w H h)(e:H a=some (.tup (ks.map kV))):(tupleKind (dr P w)).is h ks a:=by
 obtain⟨_,its,r,o,h1,h2,n,h3⟩:=(show fj P w H h a (.tup (ks.map kV)) from ok a _ e)
 exact⟨o,its.toArray,n,h1,h2,h3,by simpa using sr r⟩
theorem En{kvs:List (List Key × V)}(ok:lX P w H h)(e:Rd H a (.dT kvs)):kvs.length≤sizeLine∧(a==sysModules)=false∧
 ∃xs,KT H kvs xs∧h.DictOfH (tupleKind (dr P w)) a xs:=by
 obtain⟨z,y,xs,r,o,es,ep,h1,h2,h3,h4,h5⟩:=(show fj P w H h a (.dT kvs) from Ej ok e)
 refine⟨z,y,xs,r,o,es,ep,h1,h2,h3,h4,fun x hx=>?_,h5⟩
 have all:∀{l:List (List Key × V)} {m:List (List Key × Addr × Value)},KT H l m→∀x∈m,(tupleKind (dr P w)).is h x.1 x.2.1:=by
  intro l m q
  induction q with
  | nil=>intro x hx;exact nomatch hx
  | @cons p q ps qs hq t ih=>
    intro x hx
    rcases List.mem_cons.mp hx with e | hx
    ·subst e
     exact Aj ok (by rw[←hq.1];exact hq.2.1)
    ·exact ih x hx
 exact all r x hx
end
noncomputable def qZ(H:Hp)(a:Addr)(y:V)(r:Option V):Prop:=
 (∃kvs k,Rd H a (.dK kvs)∧y=kV k∧r=k7 kvs k)∨∃kvs k b,Rd H a (.dT kvs)∧y= .ref b∧H b=some (.tup (k.map kV))∧r=k7 kvs k
noncomputable def HA(H:Hp)(a:Addr)(y v:V)(H':Hp):Prop:=
 (∃kvs k,H a=some (.dK kvs)∧y=kV k∧kvs.length < sizeLine∧H'=upd H a (.dK (putK kvs k v)))∨
 ∃kvs k b,H a=some (.dT kvs)∧y= .ref b∧H b=some (.tup (k.map kV))∧kvs.length < sizeLine∧H'=upd H a (.dT (putK kvs k v))
theorem qZ.k{H:Hp}{a:Addr}{kvs:List (Key × V)}{k:Key}(e:H a=some (.dK kvs)):qZ H a (kV k) (k7 kvs k):= .inl ⟨kvs,k, .inl e,rfl,rfl⟩
section
variable {X:Cx} {pins:List (Addr × Obj)} {σ:St} {H:Hp} {s:Shared} {a:Addr} {y v:V} {u r:Value} {o:Option V} {A:Around} {E:Value→Shared→Prop}
theorem Inv.big(I:Inv X pins σ H s):sysModules < s.heap.objs.size:=by
 have h:mainGlobals < s.heap.objs.size:=(I.mod.glob.keeps I.bk).lt
 exact Nat.lt_trans (by decide) h
theorem DF{h':Heap}{t':Nat}{ob:HO}(I:Inv X pins σ H s)(mu:Ha (H a))(hs:Heap.SameBut a s.heap h')(he:∃q,h'.get? a=some q)(new:fj X.prog X.w (upd H a ob) h' a ob) :
 Inv X pins σ (upd H a ob) {s with heap:=h',toks:=t'}:=
 I.write (x:=a) (e:=a) mu (.inl rfl) (fun b q hb z=>(hs.2 b hb).trans z) he new
theorem Gz{P:Program}{w:World}{H':Hp}{h':Heap}{kvs:List (Key × V)}{vs:List (Key × Value)}(z:kvs.length≤sizeLine)(hd:(a==sysModules)=false)(rel:KV kvs vs)(dd:h'.DictOf (dr P w) a vs) :
 fj P w H' h' a (.dK kvs):=⟨z,hd,vs,rel,dd⟩
end
section
variable {X:Cx} {pins:List (Addr × Obj)} {σ:St} {H:Hp} {s:Shared} {a:Addr} {kvs:List (Key × V)} {k:Key} {u:Value} {A:Around} {E:Value→Shared→Prop}
end
noncomputable def KR(i:Expr):Prop:=∀ov iv,subscripted i false ov iv=operate [ov,iv] (getItem ov iv)
noncomputable def Kr(td ty:TE):TE:=fun σ H Q=>td σ H fun x H1=>ty σ H1 fun y H2=>∃a v,x= .ref a∧qZ H2 a y (some v)∧Q v H2
noncomputable def KU(ty td:TE):TE:=fun σ H Q=>ty σ H fun y H1=>td σ H1 fun x H2=>∃a o,x= .ref a∧qZ H2 a y o∧Q (.bl o.isSome) H2
noncomputable def IQ(ty td:TE):TE:=fun σ H Q=>ty σ H fun y H1=>td σ H1 fun x H2=>∃a o,x= .ref a∧qZ H2 a y o∧Q (.bl (!o.isSome)) H2
noncomputable def J9(td ty tv:TE):TS:=fun D σ H=>tv σ H fun v H1=>td σ H1 fun x H2=>ty σ H2 fun y H3=>∃a H4,x= .ref a∧HA H3 a y v H4∧D.nx σ H4
noncomputable def Ka(td ty tv:TE)(rd:V→V→Hp→VK→Prop):TS:=fun D σ H=>td σ H fun x H1=>ty σ H1 fun y H2=>∃a v,x= .ref a∧qZ H2 a y (some v)∧
 tv σ H2 fun y2 H3=>rd v y2 H3 fun z H4=>∃H5,HA H4 a y z H5∧D.nx σ H5
noncomputable def J2(td ty:TE):TS:=fun D σ H=>td σ H fun x H1=>ty σ H1 fun y H2=>∃a kvs k,x= .ref a∧H2 a=some (.dK kvs)∧y=kV k∧(k7 kvs k).isSome=true∧D.nx σ (upd H2 a (.dK (Ck kvs k)))
section
variable {X:Cx} {o i e value:Expr} {pos pos' tpos:Pos} {td ty tv:TE}
end
theorem A6{P:Program}{w:World}{H:Hp}(h:Heap)(hb:sysModules < h.objs.size):fj P w H (h.push {cls:= .type "dict",data:= .dict #[]}) h.objs.size (.dK []):=
 ⟨Nat.zero_le _,beq_eq_false_iff_ne.mpr (Ne.symm (Nat.ne_of_lt hb)),[], .nil,Heap.DictOf.new h⟩
noncomputable def JP:TE:=fun _ H Q=>∀p,H p=none→Q (.ref p) (upd H p (.dK []))
noncomputable def Jz:TE:=fun _ H Q=>∀p,H p=none→Q (.ref p) (upd H p (.dT []))
section
variable {X:Cx} {pos:Pos}
end
noncomputable def qA:List (TE × TE)→St→Hp→(List (V × V)→Hp→Prop)→Prop
 | [],_,H,Q=>Q [] H
 | (tk,tv) ::r,σ,H,Q=>tk σ H fun x H1=>tv σ H1 fun y H2=>qA r σ H2 fun ps H3=>Q ((x,y) ::ps) H3
noncomputable abbrev VV:List (V × V)→List (Value × Value)→Prop:=Paired fun p q=>RelV p.1 q.1∧RelV p.2 q.2
noncomputable def G2(X:Cx)(pos:Pos)(keys:List (Option Expr))(values:List Expr)(trs:List (TE × TE)):Prop:=
 ∀(pins:List (Addr × Obj)) (s:Shared) (σ:St) (H:Hp) (Q:List (V × V)→Hp→Prop),Inv X pins σ H s→qA trs σ H Q→
  wpAny (model X.prog X.w) X.A (evalPairs (pairTrees keys values X.env pos)) (fun vs s'=>∃ps H',Inv X pins σ H' s'∧VV ps vs∧Q ps H') X.xe s
theorem yN{X:Cx}{pos:Pos}:G2 X pos [] [] []:=fun pins s σ H Q I h=>pairTrees_nil_walk ⟨[],H,I, .nil,h⟩
theorem nu{X:Cx}{pos:Pos}{k v:Expr}{ks:List (Option Expr)}{vs:List Expr}{tk tv:TE}{trs:List (TE × TE)}(hk:PE X k tk)(hv:PE X v tv)(hr:G2 X pos ks vs trs) :
 G2 X pos (some k ::ks) (v ::vs) ((tk,tv) ::trs):=fun pins s σ H Q I h=>
 pairTrees_cons_walk (dN (hk pins s σ H _ I h) fun u s1 ⟨x,H1,I1,rx,q1⟩=>dN (hv pins s1 σ H1 _ I1 q1) fun w2 s2 ⟨y,H2,I2,ry,q2⟩=>
  dN (hr pins s2 σ H2 _ I2 q2) fun ws s3 ⟨ps,H3,I3,rel,q3⟩=>⟨(x,y) ::ps,H3,I3, .cons ⟨rx,ry⟩ rel,q3⟩)
noncomputable def jA(kvs more:List (Key × V)):List (Key × V):=more.foldl (fun acc kv=>putK acc kv.1 kv.2) kvs
theorem KV.merge:∀{more:List (Key × V)} {rs:List (Key × Value)} {kvs:List (Key × V)} {vs:List (Key × Value)},KV more rs→KV kvs vs→KV (jA kvs more) (merged vs rs):=by
 intro more rs kvs vs r
 unfold KV at r
 induction r generalizing kvs vs with
 | nil=>intro q;exact q
 | @cons p q ps qs h t ih=>
   intro r0
   have e:KV (putK kvs p.1 p.2) (stored vs q.1 q.2):=by
    have:=r0.put p.1 h.2
    rw[←h.1];exact this
   exact ih e
theorem lW:∀(more kvs:List (Key × V)),(jA kvs more).length≤kvs.length+more.length
 | [],kvs=>by show kvs.length≤kvs.length+0;omega
 | p ::r,kvs=>by
   have h1:=lW r (putK kvs p.1 p.2)
   have h2:=vt kvs p.1 p.2
   show(jA (putK kvs p.1 p.2) r).length≤_
   rw[List.length_cons];omega
theorem qK{P:Program}{w:World}:∀{kvs:List (Key × V)} {ws:List (Value × Value)},VV (kvs.map fun kv=>(kV kv.1,kv.2)) ws→∃rs,Carries (dr P w) ws rs∧KV kvs rs
 | [],_,r=>by rw[List.map_nil] at r;cases r;exact⟨[],True.intro, .nil⟩
 | p ::kvs,_,r=>by
   rw[List.map_cons] at r
   cases r with
   | @cons a b as bs h t=>
     obtain⟨rs,c,q⟩:=qK (P:=P) (w:=w) t
     obtain⟨b1,b2⟩:=b
     exact⟨(p.1,b2) ::rs,⟨Ae h.1,rfl,c⟩, .cons ⟨rfl,h.2⟩ q⟩
noncomputable def BJ(trs:List (TE × TE)):TE:=fun σ H Q=>∀p,H p=none→qA trs σ (upd H p (.dK [])) fun ps H2=>H2 p=some (.dK [])∧∃kvs:List (Key × V),ps=kvs.map (fun kv=>(kV kv.1,kv.2))∧kvs.length≤15∧Q (.ref p) (upd H2 p (.dK (jA [] kvs)))
theorem Dl{X:Cx}{pos:Pos}{keys:List (Option Expr)}{values:List Expr}{trs:List (TE × TE)}(h:G2 X pos keys values trs)(hall:keys.all (·.isSome)=true)(hl:keys.length=values.length)(h0:keys≠[])
 (h15:keys.length≤15):PE X (.Dict keys values pos) (BJ trs):=by
 intro pins s σ H Q I q
 have hn:=I.hok.fresh (Nat.le_refl s.heap.objs.size)
 have I1:=I.laid (a:=s.heap.objs.size) (o:= .dK []) (h':=s.heap.push {cls:= .type "dict",data:= .dict #[]}) (t':=s.toks) (fun _ _ q=>Heap.get?_push_of_some _ q) (Nat.le_refl _) (A6 s.heap I.big)
 refine wpAny_Dict_walk (knd:=dr X.prog X.w) hall hl h0 h15 (dN (h pins _ σ _ _ I1 (q _ hn)) fun ws s2 ⟨ps,H2,I2,rel,e,kvs,ep,lk,q2⟩=>?_)
 subst ep
 obtain⟨rs,c,rk⟩:=qK (P:=X.prog) (w:=X.w) rel
 obtain⟨z,hd,vs0,r0,dd⟩:=HL I2.hok e
 cases r0
 refine⟨rs,c,dd,fun h' dd' hs=>⟨.ref s.heap.objs.size,_,?_,rfl,q2⟩⟩
 have hz:(jA [] kvs).length≤sizeLine:=by
  have h1:=lW kvs []
  rw[List.length_nil] at h1
  rw[sizeLine_eq];omega
 have he:∃q,h'.get? s.heap.objs.size=some q:=let⟨q,_,_,hq,_⟩:=dd';⟨q,hq⟩
 exact DF I2 (by rw[e];exact True.intro) hs he (Gz hz hd (rk.merge .nil) dd')
structure M1 (X:Cx) (o:Expr) (m:Str) (apos:Pos) (e:Expr) (cpos:Pos):Prop where
 base:attributeBase o m X.env (eval o X.env)=eval o X.env
 few:((backTo cpos (starEach [e] X.env)).all (fun x=>!x.1) && (backToKw cpos (keywordEach [] X.env)).all (fun x=>x.1.isSome)
  && decide (([e]:List Expr).length+([]:List Keyword).length+(if([]:List Keyword).isEmpty then 0 else 1) < 30))=true
 line:(apos.endLine==cpos.line)=true
 trees:backTo cpos (starEach [e] X.env)=[(false,eval e X.env)]
structure M2 (X:Cx) (o:Expr) (m:Str) (apos:Pos) (e f:Expr) (cpos:Pos):Prop where
 base:attributeBase o m X.env (eval o X.env)=eval o X.env
 few:((backTo cpos (starEach [e,f] X.env)).all (fun x=>!x.1) && (backToKw cpos (keywordEach [] X.env)).all (fun x=>x.1.isSome)
  && decide (([e,f]:List Expr).length+([]:List Keyword).length+(if([]:List Keyword).isEmpty then 0 else 1) < 30))=true
 line:(apos.endLine==cpos.line)=true
 trees:backTo cpos (starEach [e,f] X.env)=[(false,eval e X.env),(false,eval f X.env)]
noncomputable def Io(H:Hp)(a:Addr):Prop:=(∃kvs,Rd H a (.dK kvs))∨∃kvs,Rd H a (.dT kvs)
theorem EF{X:Cx}{pins:List (Addr × Obj)}{σ:St}{H:Hp}{s:Shared}{a:Addr}(I:Inv X pins σ H s)(d:Io H a) :
 s.TypeIs (.ref a) "dict"∧(∀b,Value.ref a= .ref b→∃ob,s.heap.get? b=some ob∧ob.dict=none)∧(a==sysModules)=false:=by
 rcases d with⟨kvs,e⟩ | ⟨kvs,e⟩
 ·obtain⟨_,hd,vs,_,dd⟩:=A9 I.hok e
  refine⟨dd.typeIs,fun b q=>?_,hd⟩
  cases q
  obtain⟨ob,_,_,h1,h2,_⟩:=dd
  exact⟨ob,h1,h2.2.1⟩
 ·obtain⟨_,hd,xs,_,dd⟩:=En I.hok e
  refine⟨dd.typeIs,fun b q=>?_,hd⟩
  cases q
  obtain⟨ob,_,_,h1,h2,_⟩:=dd
  exact⟨ob,h1,h2.2.1⟩
section
variable {X:Cx} {pins:List (Addr × Obj)} {σ:St} {H:Hp} {s:Shared} {a:Addr} {y d:V} {u r:Value} {o:Option V} {A:Around} {E:Value→Shared→Prop}
theorem FV{Q:Value→Shared→Prop}(hu:A.units+1 < cLine)(I:Inv X pins σ H s)(g:qZ H a y o)(ry:RelV y u)(rd:RelV d r)(h:∀w' s',Inv X pins σ H s'→RelV (o.getD d) w'→Q w' s') :
 wpAny (model X.prog X.w) A (call (.builtin "dict.get") [.ref a,u,r]) Q E s:=by
 rcases g with⟨kvs,k,e,ey,l⟩ | ⟨kvs,k,b,e,ey,eb,l⟩
 ·subst ey
  obtain⟨z,hd,vs,rel,dd⟩:=A9 I.hok e
  refine call_meetsIn PySem.F.slot_dict_get dd.typeIs PySem.F.entry_dict_get (PySem.F.args_dict_get_3 _ _ _) (meets_dict_get_default (dr X.prog X.w) a (Ae ry) hd r) ⟨_,dd.mapOf,h _ _ (I.tok _) ?_⟩
  rw[l]
  exact(rel.val k).getD rd
 ·subst ey
  cases(show u=Value.ref b from ry)
  obtain⟨z,hd,xs,rel,dd⟩:=En I.hok e
  refine call_meetsIn PySem.F.slot_dict_get dd.typeIs PySem.F.entry_dict_get (PySem.F.args_dict_get_3 _ _ _) (meetsH_dict_get_default (tupleKind (dr X.prog X.w)) a b hd r) ⟨tupleKind_room_in1 hu,k,xs,Aj I.hok eb,dd,h _ _ (I.tok _) ?_⟩
  rw[l]
  exact(rel.val k).getD rd
end
noncomputable def JM(td ty:TE):TE:=fun σ H Q=>td σ H fun x H1=>∃a,x= .ref a∧Io H1 a∧ty σ H1 fun y H2=>∃o,qZ H2 a y o∧Q (o.getD .cS) H2
noncomputable def ET(td ty tx:TE):TE:=fun σ H Q=>td σ H fun x H1=>∃a,x= .ref a∧Io H1 a∧ty σ H1 fun y H2=>tx σ H2 fun z H3=>∃o,qZ H3 a y o∧Q (o.getD z) H3
noncomputable def Jj(td ty:TE):TE:=fun σ H Q=>td σ H fun x H1=>∃a,x= .ref a∧Io H1 a∧ty σ H1 fun y H2=>∃kvs k v,H2 a=some (.dK kvs)∧y=kV k∧k7 kvs k=some v∧Q v (upd H2 a (.dK (Ck kvs k)))
noncomputable def Jb(td ty tx:TE):TE:=fun σ H Q=>td σ H fun x H1=>∃a,x= .ref a∧Io H1 a∧ty σ H1 fun y H2=>tx σ H2 fun z H3=>∃kvs k,H3 a=some (.dK kvs)∧y=kV k∧
 (∀v,k7 kvs k=some v→Q v (upd H3 a (.dK (Ck kvs k))))∧(k7 kvs k=none→Q z H3)
section
variable {X:Cx} {o e f:Expr} {apos cpos:Pos} {td ty tx:TE}
theorem Af(hu:X.A.units+1 < cLine)(ho:PE X o td)(he:PE X e ty)(hf:PE X f tx)(m:M2 X o "get" apos e f cpos):PE X (.Call (.Attribute o "get" apos) [e,f] [] cpos) (ET td ty tx):=by
 intro pins s σ H Q I h
 refine wpAny_Call_method m.base m.few m.line PySem.F.plainAttrs_dict PySem.F.slot_dict_get PySem.F.type_dict_get (dN (ho pins s σ H _ I h) fun u s1 ⟨x,H1,I1,rx,a,ex,d,q1⟩=>?_)
 subst ex
 obtain rfl:u=Value.ref a:=rx
 obtain⟨t1,t2,_⟩:=EF I1 d
 refine⟨t1,t2,?_⟩
 rw[m.trees]
 refine Calls.callWith_builtin rfl (Calls.evalArgs_plain (Calls.spliced_cons (dN (he pins s1 σ H1 _ I1 q1) fun iv s2 ⟨y,H2,I2,ry,q2⟩=>
  Calls.spliced_cons (dN (hf pins s2 σ H2 _ I2 q2) fun fv s3 ⟨z,H3,I3,rz,ov,g,q3⟩=>Calls.spliced_nil ?_))))
 exact FV hu I3 g ry rz fun w' s4 I4 rw'=>⟨_,H3,I4,rw',q3⟩
end
section
variable {X:Cx} {pins:List (Addr × Obj)} {σ:St} {H:Hp} {s:Shared} {a:Addr} {kvs:List (Key × V)} {A:Around} {E:Value→Shared→Prop}
end
section
variable {X:Cx} {pins:List (Addr × Obj)} {σ:St} {H:Hp} {s:Shared} {a:Addr} {y:V} {u:Value} {A:Around} {E:Value→Shared→Prop}
end
end L2
namespace HT
open PySem PyProof.Rows
noncomputable def lexLt:List Int→List Int→Bool
 | [],[]=>false
 | [],_ ::_=>true
 | _ ::_,[]=>false
 | x ::xs,y ::ys=>if x=y then lexLt xs ys else decide (x < y)
section
open PySem.SeqAt
open PySem.AutoSeq1 (wpAny_loadPart')
open PySem.MeetsSeq PySem.MeetsSeq2 PySem.MeetsSeq3
end
section
variable {prog:Program} {w:World} {A:Around} {E:Value→Shared→Prop} {s:Shared}
theorem CA{t b:Addr}{vs ws:List Value}{Q:Value→Shared→Prop}(ht:IsTup s.heap t vs.toArray)(hb:IsTup s.heap b ws.toArray)(hv:vs≠[])
 (h1:ws=[]→Q (.ref t) s) (h2:ws≠[]→Q (.ref s.heap.objs.size) {s with heap:=s.heap.push {cls:= .type "tuple",data:= .seq (vs++ws).toArray}})
 (hsz:vs.length+ws.length≤sizeLine):wpAny (model prog w) A (binaryOp .Add (.ref t) (.ref b)) Q E s:=by
 obtain⟨⟨cls,dd,data,sl⟩,ho,hc,n,hd⟩:=id ht
 obtain⟨⟨cls2,dd2,data2,sl2⟩,ho2,hc2,n2,hd2⟩:=id hb
 simp only at hc hd hc2 hd2
 subst hc hd hc2 hd2
 have e:vs.toArray++ws.toArray=(vs++ws).toArray:=by simp
 by_cases hw:ws=[]
 ·exact concat_meets ⟨_,ho,rfl⟩ ⟨_,ho2,rfl⟩ noFill_tuple_add seq_tuple_add PySem.F.slot_tuple_add PySem.F.entry_tuple_add (PySem.F.args_tuple_add_2 _ _)
   (tuple_addW1 t b vs.toArray ws.toArray n n2 dd dd2 sl sl2 (by simpa using hv) (by simp [hw])) ⟨ho,ho2,h1 hw⟩
 ·refine concat_meets ⟨_,ho,rfl⟩ ⟨_,ho2,rfl⟩ noFill_tuple_add seq_tuple_add PySem.F.slot_tuple_add PySem.F.entry_tuple_add (PySem.F.args_tuple_add_2 _ _)
   (tuple_addW2 t b vs.toArray ws.toArray n n2 dd dd2 sl sl2 (by simpa using hv) (by simpa using hw) (by rw[List.size_toArray,List.size_toArray];exact hsz)) ⟨ho,ho2,?_⟩
  rw[e]
  exact h2 hw
noncomputable def qY(n d:Nat):Option Int→Nat
 | none=>d
 | some v=>if v < 0 then(v+(n:Int)).toNat else min v.toNat n
theorem A1(n d:Nat):qY n d none=d:=rfl
theorem sS(n d k:Nat):qY n d (some (k:Int))=min k n:=by
 show(if(k:Int) < 0 then((k:Int)+(n:Int)).toNat else min (k:Int).toNat n)=min k n
 rw[if_neg (by omega),Int.toNat_natCast]
end
end HT
namespace L2
open PySem PySem.Spec PyProof.Rows
noncomputable abbrev TO:=St→Hp→(Option Int→Hp→Prop)→Prop
noncomputable def PO(X:Cx)(e:Option Expr)(t:TO):Prop:=
 ∀(pins:List (Addr × Obj)) (s:Shared) (σ:St) (H:Hp) (Q:Option Int→Hp→Prop),Inv X pins σ H s→t σ H Q→
  wpAny (model X.prog X.w) X.A (evalPart e X.env) (fun u s'=>∃o H',Inv X pins σ H' s'∧IsPart u o∧Q o H') X.xe s
noncomputable def CJ:TO:=fun _ H Q=>Q none H
noncomputable def Ir(t:TE):TO:=fun σ H Q=>t σ H fun x H1=>∃i,x= .int i∧Q (some i) H1
section
variable {X:Cx} {e:Expr} {te:TE} {lo hi:Option Expr} {tl th:TO} {pos p2:Pos}
theorem Du:PO X none CJ:=by
 intro pins s σ H Q I h
 rw[evalPart_none]
 exact wpAny_pure ⟨none,H,I, .none,h⟩
theorem D2(h:PE X e te):PO X (some e) (Ir te):=by
 intro pins s σ H Q I hw
 rw[evalPart_some]
 refine dN (h pins s σ H _ I hw) fun u s1 ⟨x,H1,I1,r1,q1⟩=>?_
 obtain⟨i,rfl,q⟩:=q1
 obtain⟨t,rfl⟩:=r1
 exact⟨some i,H1,I1, .int i t,q⟩
noncomputable def Fh(X:Cx)(r:V→Option Int→Option Int→Hp→VK→Prop):Prop:=
 ∀(pins:List (Addr × Obj)) (s:Shared) (σ:St) (H:Hp) (x:V) (v vl vu:Value) (lo hi:Option Int) (sl:Addr) (Q:VK),Inv X pins σ H s→RelV x v→s.heap.IsSliceOf sl vl vu .none→IsPart vl lo→IsPart vu hi→r x lo hi H Q→
  ∃T id,typeLookup (.type T) "__getitem__"=pure (some (.builtin id))∧s.TypeIs v T∧wpAny (model X.prog X.w) X.A (getItem v (.ref sl)) (EP X pins σ Q) X.xe s
theorem Fh.or{r r':V→Option Int→Option Int→Hp→VK→Prop}(h:Fh X r)(h':Fh X r'):Fh X (fun x lo hi H Q=>r x lo hi H Q∨r' x lo hi H Q):=by
 intro pins s σ H x v vl vu lo hi sl Q I rx hs pl pu q
 rcases q with q | q
 ·exact h pins s σ H x v vl vu lo hi sl Q I rx hs pl pu q
 ·exact h' pins s σ H x v vl vu lo hi sl Q I rx hs pl pu q
noncomputable def Lv(r:V→Option Int→Option Int→Hp→VK→Prop)(te:TE)(tl th:TO):TE:=fun σ H Q=>te σ H fun x H1=>tl σ H1 fun l H2=>th σ H2 fun u H3=>r x l u H3 Q
theorem Al{r:V→Option Int→Option Int→Hp→VK→Prop}(hr:Fh X r)(he:PE X e te)(hl:PO X lo tl)(hu:PO X hi th):PE X (.Subscript e (.Slice lo hi none p2) pos) (Lv r te tl th):=by
 intro pins s σ H Q I h
 refine Subscript_ (dN (he pins s σ H _ I h) fun v s1 ⟨x,H1,I1,r1,q1⟩=>?_)
 refine wpAny_Slice (dN (hl pins s1 σ H1 _ I1 q1) fun vl s2 ⟨l,H2,I2,pl,q2⟩=>dN (hu pins s2 σ H2 _ I2 q2) fun vu s3 ⟨u,H3,I3,pu,q3⟩=>?_)
 rw[evalPart_none]
 refine wpAny_pure ?_
 have I4:Inv X pins σ H3 {s3 with heap:=s3.heap.push {cls:= .type "slice",data:= .fields #[vl,vu, .none]}}:=I3.kept (t':=s3.toks) fun b ob q=>Heap.get?_push_of_some _ q
 obtain⟨T,id,hT,ht,hg⟩:=hr pins {s3 with heap:=s3.heap.push {cls:= .type "slice",data:= .fields #[vl,vu, .none]}} σ H3 x v vl vu l u s3.heap.objs.size Q I4 r1 (Heap.IsSliceOf.new ..) pl pu q3
 show wpAny (model X.prog X.w) X.A (subscriptTail e (.Slice lo hi none p2) v (.ref s3.heap.objs.size)) (EP X pins σ Q) X.xe {s3 with heap:=s3.heap.push {cls:= .type "slice",data:= .fields #[vl,vu, .none]}}
 exact tail_any (ops:=[.ref s3.heap.objs.size,v]) ht hT hg (by with_unfolding_all rfl)
noncomputable def wm(xs:List V)(lo hi:Option Int):List V:=(xs.drop (HT.qY xs.length 0 lo)).take (HT.qY xs.length xs.length hi - HT.qY xs.length 0 lo)
theorem u9(xs:List V)(lo hi:Option Int):(wm xs lo hi).length≤xs.length:=by
 unfold wm
 rw[List.length_take,List.length_drop]
 omega
noncomputable def Lm(K:PySem.W.Frag):V→Option Int→Option Int→Hp→VK→Prop:=fun x lo hi H Q=>∃a xs,x= .ref a∧pC K H a xs∧
 ¬(HT.qY xs.length 0 lo=0∧HT.qY xs.length xs.length hi=xs.length)∧∀p,H p=none→Q (.ref p) (upd H p (.tup (wm xs lo hi)))
noncomputable def K5(K:PySem.W.Frag):R2:=fun x y H Q=>∃a b ns ms,x= .ref a∧y= .ref b∧pC K H a (ns.map V.int)∧pC K H b (ms.map V.int)∧Q (.bl (HT.lexLt ns ms)) H
noncomputable def Kn(K:PySem.W.Frag):R2:=fun x y H Q=>∃a b xs ys,x= .ref a∧y= .ref b∧pC K H a xs∧pC K H b ys∧xs≠[]∧xs.length+ys.length≤sizeLine∧
 (ys=[]→Q (.ref a) H)∧(ys≠[]→∀p,H p=none→Q (.ref p) (upd H p (.tup (xs++ys))))
end
end L2
namespace L2
open PySem PySem.Spec PyProof.Rows
noncomputable def qa(n:Nat)(i:Int):Option Nat:=if 0≤i then(if i < n then some i.toNat else none) else if -(n:Int)≤i then some (i+n).toNat else none
noncomputable def o_{α:Type}(xs:List α)(i:Int):Option α:=(qa xs.length i).bind fun j=>xs[j]?
theorem xJ{n:Nat}{i:Int}{j:Nat}(h:qa n i=some j):seqIndex? i n=some j∧j < n∧ -(n:Int)≤i∧i < n:=by
 unfold qa at h
 by_cases h0:0≤i
 ·rw[if_pos h0] at h
  by_cases h1:i < n
  ·rw[if_pos h1] at h
   have e:i.toNat=j:=Option.some.inj h
   exact⟨by rw[seqIndex_of h0 h1,e],by omega,by omega,h1⟩
  ·rw[if_neg h1] at h;cases h
 ·rw[if_neg h0] at h
  by_cases h1: -(n:Int)≤i
  ·rw[if_pos h1] at h
   have e:(i+n).toNat=j:=Option.some.inj h
   exact⟨by rw[seqIndex_neg (by omega) h1,e],by omega,h1,by omega⟩
  ·rw[if_neg h1] at h;cases h
theorem tj{α:Type}{xs:List α}{i:Int}{v:α}(h:o_ xs i=some v):∃j,seqIndex? i xs.length=some j∧xs[j]? =some v∧j < xs.length∧ -(xs.length:Int)≤i∧i < xs.length:=by
 unfold o_ at h
 cases e:qa xs.length i with
 | none=>rw [e] at h;cases h
 | some j=>
   rw[e] at h
   obtain⟨h1,h2,h3,h4⟩:=xJ e
   exact⟨j,h1,h,h2,h3,h4⟩
noncomputable def pO(b:Expr):Prop:=∀o i,subscripted b false o i=operate [o,i] (getItem o i)
noncomputable def C5(X:Cx)(r:R2):Prop:=
 ∀(value slice:Expr) (pins:List (Addr × Obj)) (s:Shared) (σ:St) (H:Hp) (x y:V) (v u:Value) (Q:VK),Inv X pins σ H s→RelV x v→RelV y u→r x y H Q→
  subscripted slice false v u=operate [v,u] (getItem v u)→wpAny (model X.prog X.w) X.A (subscriptTail value slice v u) (EP X pins σ Q) X.xe s
noncomputable def Ky(X:Cx)(id:String)(r:V→List V→Hp→VK→Prop):Prop:=
 ∀(pins:List (Addr × Obj)) (s:Shared) (σ:St) (H:Hp) (x:V) (xs:List V) (v:Value) (us:List Value) (Q:VK),Inv X pins σ H s→RelV x v→Vals xs us→r x xs H Q→
  wpAny (model X.prog X.w) X.A (call (.builtin id) (v ::us)) (EP X pins σ Q) X.xe s
section
variable {X:Cx} {a b:Expr} {ta tb:TE} {pos:Pos}
theorem C5.or{r r':R2}(h:C5 X r)(h':C5 X r'):C5 X (fun x y H Q=>r x y H Q∨r' x y H Q):=by
 intro value slice pins s σ H x y v u Q I rx ry q hs
 rcases q with q | q
 ·exact h value slice pins s σ H x y v u Q I rx ry q hs
 ·exact h' value slice pins s σ H x y v u Q I rx ry q hs
theorem Ey{r:R2}(hr:C5 X r)(ha:PE X a ta)(hb:PE X b tb)(hs:pO b):PE X (.Subscript a b pos) (GX r ta tb):=by
 intro pins s σ H Q I h
 exact Subscript_ (Fw ha hb I h fun v u s2 x y H2 I2 rx ry q=>hr a b pins s2 σ H2 x y v u Q I2 rx ry q (hs _ _))
noncomputable def H0(K:PySem.W.Frag):R2:=fun x y H Q=>∃p xs i v,x= .ref p∧y= .int i∧nV K H p xs∧o_ xs i=some v∧Q v H
noncomputable def Ip(K:PySem.W.Frag):R2:=fun x y H Q=>∃p xs i v,x= .ref p∧y= .int i∧pC K H p xs∧o_ xs i=some v∧Q v H
noncomputable def Hb:R2:=fun x y H Q=>∃z i c,x= .str z∧y= .int i∧z.length≤sizeLine∧o_ z.cps.toList i=some c∧Q (.str ⟨#[c]⟩) H
theorem DR:C5 X (H0 X.K):=by
 intro value slice pins s σ H x y v u Q I rx ry h hs
 obtain⟨p,xs,i,z,rfl,rfl,hq,he,q⟩:=h
 cases rx
 obtain⟨t,rfl⟩:=ry
 obtain⟨its,r,pl,hz⟩:=I.list hq
 obtain⟨j,h1,h2,h3,h4,h5⟩:=tj he
 obtain⟨w,ew,rw'⟩:=r.get h2
 have hl:=r.length
 have hn:=ot
 have fin:EP X pins σ Q w s:=⟨z,H,I,rw',q⟩
 by_cases h0:0≤i
 ·have hj:i.toNat=j:=by
   rw[seqIndex_of h0 h5] at h1
   exact Option.some.inj h1
  exact item_listR pl.isList h0 (by omega) (by rw[hj];simpa using ew) fin hs
 ·have hj:(i+(its.toArray.size:Int)).toNat=j:=by
   rw[seqIndex_neg (by omega) h4] at h1
   rw[List.size_toArray,←hl]
   exact Option.some.inj h1
  exact subscriptTail_builtinR (x:=w) pl.isList.typeIs slot_list_getitem.lookup
   (wpAny_getItem_list_neg (Q:=fun r s'=>r=w∧EP X pins σ Q r s') pl.isList (by omega) (by rw[List.size_toArray] <;> omega) (by omega) (by rw[hj];simpa using ew) ⟨rfl,fin⟩) hs
theorem F3:C5 X (Ip X.K):=by
 intro value slice pins s σ H x y v u Q I rx ry h hs
 obtain⟨p,xs,i,z,rfl,rfl,hq,he,q⟩:=h
 cases rx
 obtain⟨t,rfl⟩:=ry
 obtain⟨its,r,pl,hz⟩:=I.tuple hq
 obtain⟨j,h1,h2,h3,h4,h5⟩:=tj he
 obtain⟨w,ew,rw'⟩:=r.get h2
 have hl:=r.length
 have hn:=ot
 have fin:EP X pins σ Q w s:=⟨z,H,I,rw',q⟩
 exact subscriptTail_builtinR (x:=w) pl.typeIs slot_tuple_getitem.lookup
  (getItem_tuple (j:=j) (Q:=fun r s'=>r=w∧EP X pins σ Q r s') pl (by omega) (by omega) (by rw[List.size_toArray,←hl];exact h1) (by simpa using ew) ⟨rfl,fin⟩) hs
theorem F9:C5 X Hb:=by
 intro value slice pins s σ H x y v u Q I rx ry h hs
 obtain⟨z,i,c,rfl,rfl,hz,he,q⟩:=h
 obtain⟨t,rfl⟩:=rx
 obtain⟨t',rfl⟩:=ry
 obtain⟨j,h1,h2,h3,h4,h5⟩:=tj he
 have hl:z.cps.toList.length=z.length:=by simp [Str.length]
 rw[hl] at h1 h4 h5
 have hn:=ot
 exact tail_any (typeIs_str s z t) slot_str_getitem.lookup (getItem_str (c:=c) (by
  have e1:decide (i < -(2 ^ 63:Int))=false:=decide_eq_false (by omega)
  have e2:decide (i≥2 ^ 63)=false:=decide_eq_false (by omega)
  rw[e1,e2,Bool.or_false]) (by rw[h1];simpa using h2) ⟨.str ⟨#[c]⟩,H,I.tok _,⟨_,rfl⟩,q⟩) hs
noncomputable def JD(K:PySem.W.Frag):R2:=fun x y H Q=>H0 K x y H Q∨Ip K x y H Q∨Hb x y H Q
theorem B4:C5 X (JD X.K):=DR.or (F3.or F9)
theorem xg(its:List Value)(n j:Nat)(u:Value):Obj.mapSeq (·.setIfInBounds j u) {cls:= .type "list",data:= .seq its.toArray n}={cls:= .type "list",data:= .seq (its.set j u).toArray n}:=by
 simp [Obj.mapSeq]
theorem Inv.lst{pins:List (Addr × Obj)}{σ:St}{H:Hp}{s:Shared}{p:Addr}{xs:List V}(I:Inv X pins σ H s)(h:H p=some (.lst xs)) :
 ∃(its:List Value) (n:Nat),Vals xs its∧s.heap.get? p=some {cls:= .type "list",data:= .seq its.toArray n}∧xs.length≤sizeLine:=by
 obtain⟨z,its,n,r,e⟩:=I.hok p _ h
 exact⟨its,n,r,e,z⟩
theorem Inv.Gx{pins:List (Addr × Obj)}{σ:St}{H:Hp}{s:Shared}{p:Addr}{xs ys:List V}{its its':List Value}{n n':Nat}{f:Obj→Obj}(I:Inv X pins σ H s)(h:H p=some (.lst xs))
 (ho:s.heap.get? p=some {cls:= .type "list",data:= .seq its.toArray n}) (hf:f {cls:= .type "list",data:= .seq its.toArray n}={cls:= .type "list",data:= .seq its'.toArray n'}) (r:Vals ys its') (hz:ys.length≤sizeLine) (t:Nat) :
 Inv X pins σ (upd H p (.lst ys)) {s with heap:=s.heap.update p f,toks:=t}:=by
 have e:(s.heap.update p f).get? p=some {cls:= .type "list",data:= .seq its'.toArray n'}:=by
  rw[Heap.get?_update_self f ho (by rw[hf] <;> rfl),hf]
 refine I.write (x:=p) (e:=p) (by rw[h];trivial) (.inl rfl) (fun b u hb q=>(Heap.get?_update_other _ _ (Ne.symm hb)).trans q) ⟨_,e⟩ ?_
 exact⟨hz,its',n',r,e⟩
noncomputable def EA:V→V→V→Hp→(Hp→Prop)→Prop:=fun o i v H Q=>∃p xs k j,o= .ref p∧i= .int k∧H p=some (.lst xs)∧qa xs.length k=some j∧Q (upd H p (.lst (xs.set j v)))
theorem set_list:Hi X EA:=by
 intro pins s σ H o i v ov iv u Q I ro ri rv h
 obtain⟨p,xs,k,j,rfl,rfl,hp,hj,q⟩:=h
 cases ro
 obtain⟨t,rfl⟩:=ri
 obtain⟨its,n,r,ho,hz⟩:=I.lst hp
 obtain⟨h1,h2,h3,h4⟩:=xJ hj
 have hl:=r.length
 have hn:=ot
 have I':Inv X pins σ (upd H p (.lst (xs.set j v))) {s with heap:=s.heap.update p (Obj.mapSeq (·.setIfInBounds j u))}:=
  I.Gx hp ho (xg its n j u) (r.set rv j) (by rw[List.length_set];exact hz) s.toks
 by_cases h0:0≤k
 ·have hk:k.toNat=j:=by
   rw[seqIndex_of h0 h4] at h1
   exact Option.some.inj h1
  exact PySem.W.ki_setAt ho h0 (by omega) (by rw[List.size_toArray,←hl];exact h4) (by rw[hk];exact⟨_,I',q⟩)
 ·have hk:(k+(its.toArray.size:Int)).toNat=j:=by
   rw[seqIndex_neg (by omega) h3] at h1
   rw[List.size_toArray,←hl]
   exact Option.some.inj h1
  exact PySem.W.ki_setBack ho (by omega) (by rw[List.size_toArray,←hl];exact h3) (by omega) (by rw[hk];exact⟨_,I',q⟩)
theorem sQ(lo hi:Option Int)(n:Nat):(sliceBounds lo hi none n).1=((HT.qY n 0 lo:Nat):Int)∧(sliceBounds lo hi none n).2.1=((HT.qY n n hi:Nat):Int)∧(sliceBounds lo hi none n).2.2=1:=by
 refine⟨?_,?_,rfl⟩
 ·cases lo with
  | none=>simp [sliceBounds,HT.qY]
  | some i=>
    simp only[sliceBounds,HT.qY,Option.getD_none,show(1:Int) > 0 by decide,if_true]
    by_cases h:i < 0
    ·simp only[h,if_true] <;> omega
    ·simp only[h,if_false] <;> omega
 ·cases hi with
  | none=>simp [sliceBounds,HT.qY]
  | some i=>
    simp only[sliceBounds,HT.qY,Option.getD_none,show(1:Int) > 0 by decide,if_true]
    by_cases h:i < 0
    ·simp only[h,if_true] <;> omega
    ·simp only[h,if_false] <;> omega
theorem rg(its:List Value)(lo hi:Option Int):slicePick its.toArray lo hi none=((its.drop (HT.qY its.length 0 lo)).take (HT.qY its.length its.length hi - HT.qY its.length 0 lo)).toArray:=by
 obtain⟨h1,h2,h3⟩:=sQ lo hi its.toArray.size
 unfold slicePick
 rw[h1,h2,h3]
 simp only[sliceRange_one,pick_run,List.size_toArray] <;> rfl
noncomputable def Jn(K:PySem.W.Frag):V→Option Int→Option Int→Hp→VK→Prop:=fun x lo hi H Q=>∃a xs,x= .ref a∧nV K H a xs∧∀p,H p=none→Q (.ref p) (upd H p (.lst (wm xs lo hi)))
theorem Dh:Fh X (Jn X.K):=by
 intro pins s σ H x v vl vu lo hi sl Q I rx hs pl pu h
 obtain⟨a,xs,rfl,hx,q⟩:=h
 cases rx
 obtain⟨its,r,ht,hz⟩:=I.list hx
 have hlen:=r.length
 refine⟨"list",_,slot_list_getitem.lookup,ht.isList.typeIs,?_⟩
 refine wpAny_getItem_list_slice ht.isList hs pl pu .none (by simp) ?_ (by rw[List.size_toArray] <;> omega)
 rw[rg,←hlen]
 refine⟨.ref s.heap.objs.size,_,I.laid (t':=s.toks) (o:= .lst (wm xs lo hi)) (fun b ob q=>Heap.get?_push_of_some _ q) (Nat.le_refl _) ?_,rfl,q _ (I.hok.fresh (Nat.le_refl _))⟩
 exact⟨Nat.le_trans (u9 xs lo hi) hz,_,0,(r.drop (HT.qY xs.length 0 lo)).take (HT.qY xs.length xs.length hi - HT.qY xs.length 0 lo),Heap.get?_push_size _ rfl⟩
noncomputable def jh:V→Bool
 | .cS=>true
 | .bl _=>true
 | .int _=>true
 | .str _=>true
 | _=>false
noncomputable def Co:V→V→Bool
 | .cS, .cS=>true
 | .bl a, .bl b=>a==b
 | .bl a, .int b=>(if a then 1 else 0)==b
 | .int a, .bl b=>a==(if b then 1 else 0)
 | .int a, .int b=>a==b
 | .str a, .str b=>a==b
 | _,_=>false
theorem FN{A:Around}{s:Shared}{y x:V}{u v:Value}(ry:RelV y u)(rx:RelV x v)(fy:jh y=true)(fx:jh x=true):SeqAt.EqAt A s u v (Co y x):=by
 cases y with
 | cS=>
   cases ry
   cases x with
   | cS=>cases rx;exact SeqAt.EqAt.same _
   | bl b=>cases rx;exact SeqAt.EqAt.none_bool b
   | int b=>obtain⟨t,rfl⟩:=rx;exact SeqAt.EqAt.none_int b t
   | str b=>obtain⟨t,rfl⟩:=rx;exact SeqAt.EqAt.none_str b t
   | _=>exact absurd (show false=true from fx) Bool.false_ne_true
 | bl a=>
   cases ry
   cases x with
   | cS=>cases rx;exact SeqAt.EqAt.bool_none a
   | bl b=>cases rx;exact SeqAt.EqAt.bool_bool a b
   | int b=>obtain⟨t,rfl⟩:=rx;exact SeqAt.EqAt.bool_int a b t
   | str b=>obtain⟨t,rfl⟩:=rx;exact SeqAt.EqAt.bool_str a b t
   | _=>exact absurd (show false=true from fx) Bool.false_ne_true
 | int a=>
   obtain⟨t',rfl⟩:=ry
   cases x with
   | cS=>cases rx;exact SeqAt.EqAt.int_none a t'
   | bl b=>cases rx;exact SeqAt.EqAt.int_bool a t' b
   | int b=>obtain⟨t,rfl⟩:=rx;exact SeqAt.EqAt.int_int a t' b t
   | str b=>obtain⟨t,rfl⟩:=rx;exact SeqAt.EqAt.int_str a t' b t
   | _=>exact absurd (show false=true from fx) Bool.false_ne_true
 | str a=>
   obtain⟨t',rfl⟩:=ry
   cases x with
   | cS=>cases rx;exact SeqAt.EqAt.str_none a t'
   | bl b=>cases rx;exact SeqAt.EqAt.str_bool a t' b
   | int b=>obtain⟨t,rfl⟩:=rx;exact SeqAt.EqAt.str_int a t' b t
   | str b=>obtain⟨t,rfl⟩:=rx;exact SeqAt.EqAt.str_str a t' b t
   | _=>exact absurd (show false=true from fx) Bool.false_ne_true
 | _=>exact absurd (show false=true from fy) Bool.false_ne_true
noncomputable def zO(x:V)(u:Value):Bool:=match u with
 | .none=>Co .cS x
 | .bool b=>Co (.bl b) x
 | .int i _=>Co (.int i) x
 | .str z _=>Co (.str z) x
 | _=>false
theorem wz{x y:V}{u:Value}(r:RelV y u)(f:jh y=true):zO x u=Co y x:=by
 cases y with
 | cS=>cases r;rfl
 | bl b=>cases r;rfl
 | int i=>obtain⟨t,rfl⟩:=r;rfl
 | str z=>obtain⟨t,rfl⟩:=r;rfl
 | _=>exact absurd (show false=true from f) Bool.false_ne_true
theorem ub{x:V}:∀{xs:List V} {us:List Value},Vals xs us→xs.all jh=true→us.any (zO x)=xs.any fun y=>Co y x
 | _,_, .nil,_=>rfl
 | y ::xs,u ::us, .cons r t,f=>by
   rw[List.all_cons,Bool.and_eq_true] at f
   rw[List.any_cons,List.any_cons,wz r f.1,ub t f.2]
theorem nL{A:Around}{s:Shared}{x:V}{v:Value}(rx:RelV x v)(fx:jh x=true):∀{xs:List V} {us:List Value},Vals xs us→xs.all jh=true→∀u∈us,SeqAt.EqAt A s u v (zO x u)
 | _,_, .nil,_=>fun u hu=>by cases hu
 | y ::xs,u ::us, .cons r t,f=>fun u' hu=>by
   rw[List.all_cons,Bool.and_eq_true] at f
   rcases List.mem_cons.mp hu with rfl | hu
   ·rw[wz r f.1];exact FN r rx f.1 fx
   ·exact nL rx fx t f.2 u' hu
noncomputable def Em(x:V)(xs:List V):Bool:=xs.any fun y=>Co y x
noncomputable def Kt(K:PySem.W.Frag)(neg:Bool):R2:=fun x y H Q=>∃p xs,y= .ref p∧(nV K H p xs∨pC K H p xs)∧jh x=true∧xs.all jh=true∧Q (.bl (if neg then !Em x xs else Em x xs)) H
theorem zK:k_ X (compareOp .In) (Kt X.K false):=by
 intro pins s σ H x y v u Q I rx ry h
 obtain⟨p,xs,rfl,hq,fx,fs,q⟩:=h
 cases ry
 rcases hq with hq | hq
 ·obtain⟨its,r,pl,hz⟩:=I.list hq
  refine SeqAt.in_listAt (zO x) pl.isList (fun w hw=>nL rx fx r fs w (by simpa using hw)) ⟨.bl _,H,I,rfl,?_⟩
  rw[show its.toArray.any (zO x)=its.any (zO x) by simp,ub r fs]
  exact q
 ·obtain⟨its,r,pl,hz⟩:=I.tuple hq
  refine SeqAt.in_tupleAt (zO x) pl (fun w hw=>nL rx fx r fs w (by simpa using hw)) ⟨.bl _,H,I,rfl,?_⟩
  rw[show its.toArray.any (zO x)=its.any (zO x) by simp,ub r fs]
  exact q
theorem rm:nJ X (.type "tuple") (fun xs H Q=>∃p ys,xs=[.ref p]∧((nV X.K H p ys∧∀l,H l=none→Q (.ref l) (upd H l (.tup ys)))∨(pC X.K H p ys∧Q (.ref p) H))):=by
 intro pins s σ H xs us Q I r h
 obtain⟨p,ys,rfl,h⟩:=h
 obtain⟨u,rfl,rx⟩:=vals1 r
 cases rx
 rcases h with⟨hq,q⟩ | ⟨hq,q⟩
 ·obtain⟨its,r',pl,hz⟩:=I.list hq
  have hlen:=r'.length
  refine call_tuple_list pl.isList (fun h' kp=>?_) (by simp only[List.size_toArray] <;> omega)
  have I1:Inv X pins σ H {s with heap:=h'}:=I.kept (t':=s.toks) kp
  have I2:Inv X pins σ (upd H h'.objs.size (.tup ys)) {s with heap:=h'.push {cls:= .type "tuple",data:= .seq its.toArray}}:=
   I1.laid (t':=s.toks) (fun b o e=>Heap.get?_push_of_some _ e) (Nat.le_refl _) (show fj X.prog X.w _ _ _ (.tup ys) from⟨hz,its,r',IsTup.new _ _⟩)
  exact⟨.ref h'.objs.size,_,I2,rfl,q _ (I1.hok.fresh (Nat.le_refl _))⟩
 ·obtain⟨its,r',pl,hz⟩:=I.tuple hq
  exact call_tuple_same pl ⟨.ref p,H,I,rfl,q⟩
noncomputable def Jw(K:PySem.W.Frag)(T:String)(x:V)(H:Hp):Prop:=match x with
 | .str _=>T="str"
 | .int _=>T="int"
 | .ref p=>(T="list"∧∃xs,nV K H p xs)∨(T="tuple"∧∃o,K.lookup p=some o∧o.cls= .type "tuple"∧o.dict=none)∨
    (T="dict"∧((∃kvs,H p=some (.dK kvs))∨∃kvs,H p=some (.dT kvs)))∨(T="set"∧∃S n,H p=some (.set S n))
 | _=>False
theorem Fy{pins:List (Addr × Obj)}{σ:St}{H:Hp}{s:Shared}{T:String}{x:V}{v:Value}(I:Inv X pins σ H s)(r:RelV x v)(ty:Jw X.K T x H) :
 s.TypeIs v T∧∀a,v= .ref a→∃ob,s.heap.get? a=some ob∧ob.dict=none:=by
 cases x with
 | str z=>
   obtain⟨t,rfl⟩:=r
   cases(show T="str" from ty)
   exact⟨typeIs_str s z t,fun _ e=>nomatch e⟩
 | int i=>
   obtain⟨t,rfl⟩:=r
   cases(show T="int" from ty)
   exact⟨typeIs_int s i t,fun _ e=>nomatch e⟩
 | ref p=>
   cases r
   rcases ty with⟨rfl,xs,hq⟩ | ⟨rfl,o,hk,hc,hd⟩ | ⟨rfl,hk⟩ | ⟨rfl,S,n,hk⟩
   ·obtain⟨its,_,pl,_⟩:=I.list hq
    refine⟨pl.isList.typeIs,fun a e=>?_⟩
    cases e
    obtain⟨o,n,e,c,hd,_⟩:=pl
    exact⟨o,e,hd⟩
   ·refine⟨⟨o,I.xE p o hk,hc⟩,fun a e=>?_⟩
    cases e
    exact⟨o,I.xE _ o hk,hd⟩
   ·have z:∃o,s.heap.get? p=some o∧o.ExactDict:=by
     rcases hk with⟨kvs,hk⟩ | ⟨kvs,hk⟩
     ·obtain⟨_,_,_,_,o,_,_,e,ex,_⟩:=I.hok p _ hk
      exact⟨o,e,ex⟩
     ·obtain⟨_,_,_,_,o,_,_,e,ex,_⟩:=I.hok p _ hk
      exact⟨o,e,ex⟩
    obtain⟨o,e,ex⟩:=z
    refine⟨⟨o,e,ex.1⟩,fun a e2=>?_⟩
    cases e2
    exact⟨o,e,ex.2.1⟩
   ·obtain⟨o,_,_,_,e,ex,_⟩:=I.hok p _ hk
    refine⟨⟨o,e,ex.1⟩,fun a e2=>?_⟩
    cases e2
    exact⟨o,e,ex.2.1⟩
 | _=>exact False.elim ty
noncomputable def Ln(K:PySem.W.Frag)(T:String)(r:V→List V→Hp→VK→Prop)(to:TE):TE:=fun σ H Q=>to σ H fun x H1=>Jw K T x H1∧r x [] H1 Q
noncomputable def K_(K:PySem.W.Frag)(T:String)(r:V→List V→Hp→VK→Prop)(to:TE)(t:TA):TE:=fun σ H Q=>to σ H fun x H1=>Jw K T x H1∧t σ H1 fun xs H2=>r x xs H2 Q
variable {o e:Expr} {es:List Expr} {to:TE} {t:TA} {name:Str} {apos cpos:Pos} {T id:String} {r:V→List V→Hp→VK→Prop}
theorem B0(pa:PlainAttrs T)(slot:Slot T name id)(hty:typeOf (.builtin id)=pure (.type "method_descriptor"))(hm:Ky X id r)(ho:PE X o to)(ha:PA X (e ::es) t)
 (hbase:attributeBase o name X.env (eval o X.env)=eval o X.env:=by rfl)
 (hfew:((backTo cpos (starEach (e ::es) X.env)).all (fun x=>!x.1) && (backToKw cpos (keywordEach [] X.env)).all (fun x=>x.1.isSome)
   && decide ((e ::es).length+([]:List Keyword).length+(if([]:List Keyword).isEmpty then 0 else 1) < 30))=true:=by rfl)
 (hline:(apos.endLine==cpos.line)=true:=by rfl) (hs:starEach (e ::es) X.env=(false,eval e X.env) ::starEach es X.env:=by rfl) (hplain:(backTo cpos (starEach es X.env)).any (·.1)=false:=by rfl) :
 PE X (.Call (.Attribute o name apos) (e ::es) [] cpos) (K_ X.K T r to t):=by
 intro pins s σ H Q I h
 refine wpAny_Call_method_late hbase hfew hline rfl (dN (ho pins s σ H _ I h) fun v s1 ⟨x,H1,I1,r1,ty,q1⟩=>?_)
 obtain⟨h1,h2⟩:=Fy I1 r1 ty
 refine⟨T,id,pa,slot,hty,h1,h2,?_⟩
 have hA:=ha cpos pins s1 σ H1 _ I1 q1
 rw[hs] at hA ⊢
 refine Calls.callWith_builtin (by show(false || (backTo cpos (starEach es X.env)).any (·.1))=false;rw [hplain] <;> rfl) (Calls.evalArgs_plain ?_)
 exact dN hA fun us s2 ⟨vs,H2,I2,r2,q2⟩=>hm pins s2 σ H2 x vs v us Q I2 r1 r2 q2
end
end L2
namespace L2
open PySem PySem.Spec PyProof.Rows
noncomputable def Ly(X:Cx)(id:String)(r:V→List V→Hp→VK→Prop):Prop:=
 ∀(pins:List (Addr × Obj)) (s:Shared) (σ:St) (H:Hp) (x:V) (xs:List V) (v:Value) (us:List Value) (Q:VK),Inv X pins σ H s→RelV x v→Vals xs us→r x xs H Q→
  wpAny (model X.prog X.w) X.A (call (.builtin id) (v ::us)) (EP X pins σ Q) X.xe s
theorem Vals.one:∀{x:V} {us:List Value},Vals [x] us→∃u,us=[u]∧RelV x u
 | _,_, .cons r .nil=>⟨_,rfl,r⟩
theorem Vals.rep{xs:List V}{us:List Value}(h:Vals xs us):∀k:Nat,Vals (List.replicate k xs).flatten (List.replicate k us).flatten
 | 0=> .nil
 | k+1=>by
   rw[List.replicate_succ,List.replicate_succ,List.flatten_cons,List.flatten_cons]
   exact Vals.append h (Vals.rep h k)
theorem foldl_rep(its:List Value):∀(k:Nat) (acc:List Value),
 List.foldl (fun x1 x2=>x1++x2) acc.toArray (List.replicate k its.toArray)=(acc++(List.replicate k its).flatten).toArray
 | 0,acc=>by simp
 | k+1,acc=>by
   have e:acc.toArray++its.toArray=(acc++its).toArray:=by simp
   have e2:(acc++its)++(List.replicate k its).flatten=acc++(List.replicate (k+1) its).flatten:=by
    rw[List.replicate_succ,List.flatten_cons,List.append_assoc]
   rw[←e2,←foldl_rep its k (acc++its),←e,List.replicate_succ,List.foldl_cons]
section
variable {X:Cx} {pins:List (Addr × Obj)} {σ:St} {H:Hp} {s:Shared} {l b:Addr} {xs ys zs:List V}
theorem Inv.Jx{its its':List Value}{n:Nat}{f:Array Value→Array Value}{t':Nat}(I:Inv X pins σ H s)(hH:H l=some (.lst xs))
 (e:s.heap.get? l=some {cls:= .type "list",data:= .seq its.toArray n}) (hf:f its.toArray=its'.toArray) (hv:Vals ys its') (hz:ys.length≤sizeLine) :
 Inv X pins σ (upd H l (.lst ys)) {s with heap:=s.heap.update l (Obj.mapSeq f),toks:=t'}:=by
 have q:=PySem.IsL.update e f
 rw[hf] at q
 refine I.write (x:=l) (e:=l) (by rw[hH];exact trivial) (.inl rfl) (fun b' u hb hu=>(Heap.get?_update_other s.heap (Obj.mapSeq f) (Ne.symm hb)).trans hu) ⟨_,q⟩ ?_
 exact⟨hz,its',_,hv,q⟩
theorem Inv.Ds{its:List Value}{t':Nat}(I:Inv X pins σ H s)(hv:Vals ys its)(hz:ys.length≤sizeLine) :
 Inv X pins σ (upd H s.heap.objs.size (.lst ys)) {s with heap:=s.heap.push {cls:= .type "list",data:= .seq its.toArray},toks:=t'}:=
 I.laid (fun _ _ q=>Heap.get?_push_of_some _ q) (Nat.le_refl _) ⟨hz,its,0,hv,Heap.get?_push_size _ rfl⟩
theorem Inv.fresh(I:Inv X pins σ H s):H s.heap.objs.size=none:=I.hok.fresh (Nat.le_refl _)
theorem Inv.Hd(I:Inv X pins σ H s)(hH:H l=some (.lst xs)):xs.length≤sizeLine∧∃(its:List Value) (n:Nat),Vals xs its∧xs.length=its.length∧s.heap.get? l=some {cls:= .type "list",data:= .seq its.toArray n}:=by
 obtain⟨z,its,n,r,e⟩:=I.hok l _ hH
 exact⟨z,its,n,r,r.length,e⟩
theorem Bq{n:Nat}(h:n≤sizeLine):Builtin.List.listTooLong n=false:=by
 unfold Builtin.List.listTooLong
 exact decide_eq_false (by omega)
end
section
variable {X:Cx}
noncomputable def DD:V→List V→Hp→VK→Prop:=fun x vs H Q=>∃l xs y,x= .ref l∧vs=[y]∧H l=some (.lst xs)∧xs.length < sizeLine∧Q .cS (upd H l (.lst (xs++[y])))
theorem oC:Ly X "list.append" DD:=by
 intro pins s σ H x vs v us Q I rx rv h
 obtain⟨l,xs,y,rfl,rfl,hH,hz,q⟩:=h
 cases rx
 obtain⟨u,rfl,ru⟩:=rv.one
 obtain⟨z,its,n,r,hl,e⟩:=I.Hd hH
 refine call_meets F.slot_list_append ⟨_,e,rfl⟩ F.entry_list_append (F.args_list_append_2 _ _) (PySem.list_append l its.toArray n u (by rw[List.size_toArray];omega)) ⟨e,?_⟩
 refine⟨.cS,_,I.Jx (its':=its++[u]) hH e (by simp) (r.append (.cons ru .nil)) ?_,rfl,q⟩
 rw[List.length_append,List.length_singleton]
 omega
noncomputable def IY:V→List V→Hp→VK→Prop:=fun x vs H Q=>∃l b xs zs,x= .ref l∧vs=[.ref b]∧H l=some (.lst xs)∧H b=some (.lst zs)∧xs.length+zs.length≤sizeLine∧Q .cS (upd H l (.lst (xs++zs)))
noncomputable def LM:V→List V→Hp→VK→Prop:=fun x vs H Q=>∃l xs y,x= .ref l∧vs=[]∧H l=some (.lst xs)∧xs[xs.length - 1]? =some y∧Q y (upd H l (.lst xs.dropLast))
noncomputable def JT:V→List V→Hp→VK→Prop:=fun x vs H Q=>∃l xs i k y,x= .ref l∧vs=[.int i]∧H l=some (.lst xs)∧ -(2 ^ 63)≤i∧i < 2 ^ 63∧seqIndex? i xs.length=some k∧xs[k]? =some y∧Q y (upd H l (.lst (xs.eraseIdx k)))
noncomputable def HN:V→List V→Hp→VK→Prop:=fun x vs H Q=>∃l xs,x= .ref l∧vs=[]∧H l=some (.lst xs)∧Q .cS (upd H l (.lst xs.reverse))
noncomputable def Jg:V→List V→Hp→VK→Prop:=fun x vs H Q=>∃l xs,x= .ref l∧vs=[]∧H l=some (.lst xs)∧Q .cS (upd H l (.lst []))
noncomputable def KN:R2:=fun x y H Q=>∃l b xs zs,x= .ref l∧y= .ref b∧H l=some (.lst xs)∧H b=some (.lst zs)∧xs.length+zs.length≤sizeLine∧∀p,H p=none→Q (.ref p) (upd H p (.lst (xs++zs)))
noncomputable def Jd:R2:=fun x y H Q=>∃l k xs,x= .ref l∧y= .int k∧H l=some (.lst xs)∧ -(2 ^ 63)≤k∧k < 2 ^ 63∧xs.length*k.toNat≤sizeLine∧
 ∀p,H p=none→Q (.ref p) (upd H p (.lst (List.replicate k.toNat xs).flatten))
theorem len_rep{α:Type}(xs:List α)(k:Nat):(List.replicate k xs).flatten.length=k*xs.length:=by
 induction k with
 | zero=>simp
 | succ k ih=>rw [List.replicate_succ,List.flatten_cons,List.length_append,ih,Nat.succ_mul,Nat.add_comm]
theorem EM:k_ X (binaryOp .Mult) Jd:=by
 intro pins s σ H x y v u Q I rx ry h
 obtain⟨l,k,xs,rfl,rfl,hH,h1,h2,hz,q⟩:=h
 cases rx
 obtain⟨t,rfl⟩:=ry
 obtain⟨z,its,n,r,hl,e⟩:=I.Hd hH
 have hlen:its.toArray.size*k.toNat≤sizeLine:=by rw[List.size_toArray,←hl];exact hz
 have hcap:¬its.toArray.size*k.toNat > (2 ^ 63 - 1) / 8:=by
  have:(sizeLine:Nat)≤(2 ^ 63 - 1) / 8:=by decide
  omega
 have hfit:¬(!Builtin.List.listFitsIndex k)=true:=by
  rw[fitsIndex_both h1 h2]
  exact Bool.false_ne_true
 have hlong:¬Builtin.List.listTooLong (its.toArray.size*k.toNat)=true:=by
  rw[Bq hlen]
  exact Bool.false_ne_true
 have hnew:List.foldl (fun x1 x2=>x1++x2) #[] (List.replicate (if its.toArray.isEmpty=true then 0 else k.toNat) its.toArray)=(List.replicate k.toNat its).flatten.toArray:=by
  have f0:∀m:Nat,List.foldl (fun x1 x2=>x1++x2) #[] (List.replicate m its.toArray)=(List.replicate m its).flatten.toArray:=fun m=>by
   have:=foldl_rep its m []
   rw[List.nil_append] at this
   exact this
  rw[f0]
  cases its with
  | nil=>simp
  | cons a r'=>rw [if_neg (by simp)]
 refine wpAny_binaryOp_repeat_ref (T:="list") (U:="int") (by decide) ⟨_,e,rfl⟩ (fun s'=>typeIs_int s' k t) noFill_list_mul F.fills_int_mul F.slot_int_rmul repeat_list F.slot_int_index.lookup
  (call_meets F.slot_int_rmul (typeIs_int s k t) F.entry_int_rmul (F.args_int_rmul_2 _ _) (int___rmul___int_list k t l its.toArray n)
    ⟨e,rfl,⟨_,e,rfl⟩,call_meets F.slot_list_mul ⟨_,e,rfl⟩ F.entry_list_mul (F.args_list_mul_2 _ _) (AutoListH.list___mul___list_int_3 l its.toArray n k t hfit hcap hlong) ⟨e,?_⟩⟩)
 rw[hnew]
 exact⟨.ref _,_,I.Ds (t':=s.toks) (r.rep k.toNat) (by rw[len_rep,Nat.mul_comm];exact hz),rfl,q _ I.fresh⟩
end
section
variable {prog:Program} {w:World} {A:Around} {E:Value→Shared→Prop} {s:Shared}
set_option maxRecDepth 100000 in
end
section
variable {X:Cx}
end
end L2
namespace Att
open PySem PySem.W PySem.Calls PyProof.Rows
theorem pB{P:Params}{h:Heap}:∀(ns:List Int) (vs:List Value),WellAll P h vs (ns.map WData.int)→IntsAre vs ns:=by
 intro ns
 induction ns with
 | nil=>
   intro vs w
   rw[List.map_nil] at w
   cases w
   exact .nil
 | cons n ns ih=>
   intro vs w
   rw[List.map_cons] at w
   cases w with
   | cons a b=>
     cases a
     exact .cons _ _ (ih _ b)
theorem y3{l:OpenLaw}{n:Nat}(hn:l.most=some n){P:Params}{h:Heap}{args:List WData}{vals:List Value}
 (hpre:l.row.toRowW.claim.pre args=true) (hwl:WellAll P h vals args) :
 ∃a vs ns,vals=[Value.ref a]∧args=[WData.list (ns.map WData.int)]∧h.get? a=some {cls:= .type "list",data:= .seq vs.toArray}∧IntsAre vs ns∧ns.length≤n:=by
 have hsh:WShape.hasAll [] args [.list .int]=true:=(pre_splitW hpre).1
 have hc:l.pre.holds [] {args:=args}=true:=(pre_splitW hpre).2
 obtain⟨d,r,rfl,h1,h2⟩:=hasAllW_cons hsh
 obtain rfl:=hasAllW_nil h2
 obtain⟨xs,rfl,h3⟩:=hasW_list h1
 obtain⟨ns,rfl⟩:=items_int h3
 have hlen:ns.length≤n:=by
  unfold OpenLaw.pre at hc
  have h4:(WTm.not (.lt (.lit (.int (n:Int))) (.len (.arg 0)))).holds [] {args:=[.list (ns.map .int)]}=true:=by
   have h4:=(holds_andW hc).1
   rw[hn] at h4
   exact h4
  have h5:=condW_of h4 (w_not (w_lt w_lit (w_len_list (w_arg rfl))))
  rw[List.length_map] at h5
  refine Nat.le_of_not_lt fun q=>?_
  have q':(n:Int) < ((ns.length:Nat):Int):=by omega
  first
   | (rw [decide_eq_true q'] at h5;exact absurd h5 (by decide))
   | (simp at h5;omega)
 cases hwl with
 | cons w1 w2=>
   cases w2
   cases w1 with
   | list ho hall=>exact⟨_,_,ns,rfl,rfl,ho,pB ns _ hall,hlen⟩
theorem zC(l:OpenLaw)(args:List WData):l.row.toRowW.claim.post args (.bool true) args=true:=
 postW_of (r:=l.row.toRowW) (X:=(true==true))
  (show WShape.has [] (.bool true) .bool=true by first | rfl | decide | simp [WShape.has,WShape.arms,WShape.armsAll])
  (show(WTm.eq .res (.lit (.bool true))).value [] {args:=args,res:=some (.bool true),after:=args}=some (.bool (true==true)) from w_eq_bool (w_res rfl) w_lit) rfl
theorem vB{l:OpenLaw}{n:Nat}{q:Program}{loose:List Str}{XP:(Str→Option Value)→Heap→Prop}{YP:World→Heap→Prop}{d:DefRec}
 (hn:l.most=some n) (hdf:d.params.defaults=[])
 (call:∀(w:World) (s₀ s₁:Shared) (mg mb:Str→Option Value) (fa:Addr) (o:Obj) (pm cd doc:Value) (a:Addr) (vs:List Value) (ns:List Int),
   Ground q loose [] XP w s₀ mg mb s₁.heap→YP w s₁.heap→
   s₁.heap.get? fa=some o→o.data= .func (docDef d.name d.params d.body d.scope pm cd doc)→s₁.heap.CodeRec cd d.name→mg d.name=some (.ref fa)→
   s₁.heap.get? a=some {cls:= .type "list",data:= .seq vs.toArray}→IntsAre vs ns→ns.length≤n→s₁.gens=#[]→
   codeAny (model l.prog w) callerA (.call (.ref fa) ⟨[.ref a],[]⟩) (fun r s'=>r= .ok (.ret (.bool true))∧OldK s₁.heap s'.heap∧s'.os=s₁.os∧AllBare s'.gens) s₁) :
 WalkO q loose XP YP l.row.toRowW d [] (fun f vs=>PySem.call f vs):=by
 intro w s₀ s₁ mg mb G Y fa o pm cd doc dV kV ho hd hcd hD hmg hg args vals as hpre hlay hrd hwl hlo
 obtain rfl:dV= .none:=Dflts.none hD hdf
 obtain rfl:kV= .none:=Dflts.noKw hD
 obtain⟨a,vs,ns,rfl,rfl,hobj,hints,hlen⟩:=y3 hn hpre hwl
 refine enter_call (codeAny_mono (call w s₀ s₁ mg mb fa o pm cd doc a vs ns G Y ho (fd_plain hd) hcd hmg hobj hints hlen hg) fun r s' hq=>?_)
 obtain⟨rfl,h2,h3,h4⟩:=hq
 exact⟨.inl ⟨.bool true, .bool true,[],rfl,fun _=>rfl, .bool true,zC l _,fun _=>⟨List.Pairwise.nil,fun _ hm=>(nomatch hm)⟩⟩,h2,h3,h4⟩
section
variable {prog:Program} {w:World} {A:Around} {E:Value→Shared→Prop} {s:Shared} {K:Frag}
noncomputable def JF(h:Heap):Heap:={h with objs:=#[]}
noncomputable def ledger(h:Heap)(L d:Addr):List (Addr × Obj):=(List.range h.objs.size).filterMap fun a=>if a=L∨a=d then none else(h.get? a).map fun o=>(a,o)
end
end Att
namespace L2
open PySem PySem.Spec PyProof.Rows
theorem sC:∀{vs:List Value} {ns:List Int},IntsAre vs ns→Vals (ns.map V.int) vs
 | _,_, .nil=> .nil
 | _,_, .cons n t h=> .cons ⟨t,rfl⟩ (sC h)
noncomputable def Ic(H:Hp):Prop:=∀b,H b=none∨∃o xs,H b=some (.iS o (.lst xs))
end L2
namespace L2
open PySem PySem.Spec PyProof.Rows
noncomputable abbrev fA{K:PySem.W.Frag}{h:Heap}(_:K.In h):PySem.W.Frag:=K
end L2
namespace L2
open PySem PySem.Spec PyProof.Rows
noncomputable def inClass(s:Stmt)(j:Nat):Stmt:=match s with
 | .ClassDef _ _ _ body _ _ _ _ _ _ _=>body.getD j (.Pass ⟨0,0,0,0⟩)
 | _=> .Pass ⟨0,0,0,0⟩
noncomputable def fD(s:Stmt):Arguments:=match s with
 | .FunctionDef _ a _ _ _ _ _ _ _ _=>a
 | _=>{posonlyargs:=[],args:=[],vararg:=none,kwonlyargs:=[],kw_defaults:=[],kwarg:=none,defaults:=[]}
noncomputable def ao(s:Stmt):List Stmt:=match s with
 | .FunctionDef _ _ b _ _ _ _ _ _ _=>b
 | _=>[]
noncomputable def ag(s:Stmt):Scope:=match s with
 | .FunctionDef _ _ _ _ _ _ sc _ _ _=>sc
 | _=>{kind:= .function,names:=[],isGenerator:=false,isCoroutine:=false}
noncomputable abbrev rq:Ax:=fun _ _ _ _ _ _=>False
noncomputable abbrev E0:XK:=fun _ _ _=>False
theorem uh{X:Cx}:Passes rq X E0:=fun _ _ _ _ _ _ _ h=>h.elim
structure yq (K:PySem.W.Frag) (x qual:Str) (st:Stmt) (f:Addr) (fd:FuncData):Prop where
 ex:∃(oc:Value) (od:Option Addr) (kV doc pm:Value) (an:Option Addr) (cdv ct:Value) (osl:Array (Option Value)),
  fd=PySem.W.fnOf x qual (fD st) (ao st) (ag st) .none kV doc pm an cdv ct∧K.lookup f=some ⟨oc,od, .func fd,osl⟩∧PySem.W.codeIn K cdv qual=true
 kp:PySem.W.keepIn K (.ref f)=true
section
variable {P:Program} {w:World} {K:PySem.W.Frag} {mg:Str→Option Value} {base:Heap}
theorem yq.ok{x qual:Str}{st:Stmt}{f:Addr}{fd:FuncData}{N ps:List Str}{k:Nat}{sp:Sp}(F:yq K x qual st f fd)(S:aV N ps (ag st))(len:∀vs H Q E,sp vs H Q E→vs.length=ps.length)
 (hbody:∀(cdv:Value) (A:Around) (outer:List Env) (s:Shared) (H:Hp) (vs:List V) (Q:VK) (E:XK),et k (A.deeper (envOfC qual (ag st) s.heap.objs.size f cdv))→sp vs H Q E→
   ∃t,ue (qP rq P w K mg base N qual (ag st) f cdv A outer s H E).D6 (ao st) t∧t {nx:=fun _ H'=>Q .cS H',rt:=Q} (start N vs) H):ig P w K mg base rq (k+1) f fd ps sp:=by
 obtain⟨oc,od,kV,doc,pm,an,cdv,ct,osl,rfl,lk,hcd⟩:=F.ex
 refine Ho lk hcd S len fun A outer s H vs Q E hr hsp=>?_
 obtain⟨t,h,q⟩:=hbody cdv A outer s H vs Q E hr hsp
 exact⟨t,h.D6,q⟩
theorem yq.binds{x qual:Str}{st:Stmt}{f:Addr}{fd:FuncData}{ps:List Str}(F:yq K x qual st f fd)
 (h:∀(kV doc pm:Value) (an:Option Addr) (cdv ct:Value) (us:List Value),us.length=ps.length→bindArgs (PySem.W.fnOf x qual (fD st) (ao st) (ag st) .none kV doc pm an cdv ct) ⟨us,[]⟩=pure (ps.zip us)):Binds K fd ps []:=by
 obtain⟨oc,od,kV,doc,pm,an,cdv,ct,osl,rfl,lk,hcd⟩:=F.ex
 exact .all (h kV doc pm an cdv ct)
theorem lB{x qual:Str}{st:Stmt}{f:Addr}{oc:Value}{od an:Option Addr}{osl:Array (Option Value)}{kV doc pm cdv ct:Value}(l:K.lookup f=some ⟨oc,od, .func (PySem.W.fnOf x qual (fD st) (ao st) (ag st) .none kV doc pm an cdv ct),osl⟩)
 (c:PySem.W.codeIn K cdv qual=true) (k:PySem.W.keepIn K (.ref f)=true):yq K x qual st f (PySem.W.fnOf x qual (fD st) (ao st) (ag st) .none kV doc pm an cdv ct):=⟨⟨oc,od,kV,doc,pm,an,cdv,ct,osl,rfl,l,c⟩,k⟩
end
theorem Hh{A:Around}{k:Nat}(hr:et k A):A.units+1 < cLine:=Nat.lt_of_le_of_lt (Nat.add_le_add_left (by decide:1≤64) _) hr.units
section
variable {X:Cx}
end
theorem Bl{A B:Prop}(h:B):if false=true then A else B:=by
 rw[if_neg Bool.false_ne_true]
 exact h
theorem BV{A B:Prop}(h:A):if true=true then A else B:=by
 rw[if_pos rfl]
 exact h
noncomputable def aU(H H':Hp):Prop:=∀b o,H b=some o→H' b=some o
theorem aU.refl(H:Hp):aU H H:=fun _ _ h=>h
theorem aU.trans{H H1 H2:Hp}(a:aU H H1)(b:aU H1 H2):aU H H2:=fun c o h=>b c o (a c o h)
theorem aU.free{H H':Hp}(e:aU H H'){l:Addr}(h:H' l=Option.none):H l=Option.none:=by
 cases q:H l with
 | none=>rfl
 | some o=>
   rw[e l o q] at h
   cases h
section
variable {κ:Type} [DecidableEq κ]
end
end L2
end
section
set_option maxRecDepth 100000
set_option maxHeartbeats 4000000
namespace L2
open PySem PySem.Spec PyProof.Rows
noncomputable def pz(cells:List (Str × Addr)):List (Str × NameKind)→List (Str × Addr)→List (Str × Addr)
 | [],acc=>acc
 | (n,k) ::r,acc=>pz cells r (if k==NameKind.free then(n,(cells.lookup n).getD 0) ::acc else acc)
theorem kq{env:Env}:∀(names:List (Str × NameKind)) (acc:List (Str × Addr)),(∀y∈names,y.2= .free→∃c,env.cells.lookup y.1=some c)→
 (forIn names acc fun(x:Str × NameKind) (cs:List (Str × Addr))=>(match x with
   | (name,kind)=>if kind== .free then do let a ←cellOf env name;pure (ForInStep.yield ((name,a) ::cs)) else pure (ForInStep.yield cs):Sem (ForInStep (List (Str × Addr)))))=pure (pz env.cells names acc)
 | [],acc,_=>by simp [pz]
 | (n,k) ::r,acc,h=>by
   rw[List.forIn_cons]
   by_cases hk:k=NameKind.free
   ·subst hk
    obtain⟨c,hc⟩:=h (n, .free) List.mem_cons_self rfl
    have e:cellOf env n=pure c:=by unfold cellOf;rw [hc]
    simp only[beq_self_eq_true,if_true,e,pure_bind,pz,hc,Option.getD_some]
    exact kq r _ fun y hy=>h y (List.mem_cons_of_mem _ hy)
   ·have hb:(k==NameKind.free)=false:=by simpa using hk
    simp only[hb,Bool.false_eq_true,if_false,pure_bind,pz]
    exact kq r _ fun y hy=>h y (List.mem_cons_of_mem _ hy)
theorem kA{env:Env}{scope:Scope}(h:∀y∈scope.names,y.2= .free→∃c,env.cells.lookup y.1=some c):closureFor scope env=pure (pz env.cells scope.names []):=by
 unfold closureFor
 have:=kq (env:=env) scope.names [] h
 simp only[bind_pure]
 exact this
theorem kT{cells:List (Str × Addr)}:∀(names:List (Str × NameKind)) (acc:List (Str × Addr)) {x:Str} {c:Addr},(pz cells names acc).lookup x=some c→
 acc.lookup x=some c∨((x,NameKind.free)∈names∧c=(cells.lookup x).getD 0)
 | [],acc,x,c,h=> .inl h
 | (n,k) ::r,acc,x,c,h=>by
   rcases kT r _ h with q | ⟨q1,q2⟩
   ·by_cases hk:k=NameKind.free
    ·subst hk
     simp only[beq_self_eq_true,if_true] at q
     cases hx:x==n with
     | true=>
       have e:x=n:=by simpa using hx
       subst e
       rw[List.lookup_cons,hx] at q
       exact .inr ⟨List.mem_cons_self,(Option.some.inj q).symm⟩
     | false=>
       rw[List.lookup_cons,hx] at q
       exact .inl q
    ·have hb:(k==NameKind.free)=false:=by simpa using hk
     simp only[hb,Bool.false_eq_true,if_false] at q
     exact .inl q
   ·exact .inr ⟨List.mem_cons_of_mem _ q1,q2⟩
theorem vj{cells:List (Str × Addr)}:∀(names:List (Str × NameKind)) (acc:List (Str × Addr)) {x:Str},((x,NameKind.free)∈names∨∃c,acc.lookup x=some c)→∃c,(pz cells names acc).lookup x=some c
 | [],acc,x,h=>by
   rcases h with h | h
   ·simp at h
   ·exact h
 | (n,k) ::r,acc,x,h=>by
   refine vj r _ ?_
   rcases h with h | ⟨c,h⟩
   ·rcases List.mem_cons.mp h with e | e
    ·cases e
     exact .inr ⟨(cells.lookup n).getD 0,by simp [List.lookup_cons]⟩
    ·exact .inl e
   ·by_cases hk:k=NameKind.free
    ·subst hk
     simp only[beq_self_eq_true,if_true]
     cases hx:x==n with
     | true=>exact .inr ⟨(cells.lookup n).getD 0,by rw[List.lookup_cons,hx]⟩
     | false=>exact .inr ⟨c,by rw[List.lookup_cons,hx];exact h⟩
    ·have hb:(k==NameKind.free)=false:=by simpa using hk
     simp only[hb,Bool.false_eq_true,if_false]
     exact .inr ⟨c,h⟩
noncomputable def bB(X:Cx)(scope:Scope)(N':List Str)(fp:List Addr)(s:Shared)(H:Hp):Cx where
 prog:=X.prog
 w:=X.w
 K:=X.K
 mg:=X.mg
 base:=X.base
 A:=X.A
 N:=N'
 s₀:=s
 H₀:=H
 env:=compEnvC scope (pz X.env.cells scope.names []) s.heap.objs.size X.env
 outer:=X.stack
 stack:=X.stack
 ex:=fp
 fn:=fun _=>false
 calm:=X.calm
 pn:=[]
 xe:=fun _ _=>False
structure cq (X:Cx) (scope:Scope) (own:List Str) (kp:List Nat) (kn:List Str):Prop where
 kind:scope.kind= .function
 nocell:∀y∈scope.names,y.2≠ .cell
 nd:∀y∈scope.names,y.2= .local→scope.names.lookup y.1=some .local
 free:∀y∈scope.names,y.2= .free→X.env.kindOf y.1=some .cell∨X.env.kindOf y.1=some .free
 names:kn.length=kp.length
 at_:∀(j i:Nat) (x:Str),kp[j]? =some i→kn[j]? =some x→X.N[i]? =some x
 isfree:∀x∈kn,scope.names.lookup x=some .free
noncomputable def dz(own:List Str)(kp:List Nat)(σ:St):St:=List.replicate own.length none++kp.map fun i=>(σ[i]?).getD none
section
variable {X:Cx} {scope:Scope} {own:List Str} {kp:List Nat} {kn:List Str}
theorem eK{env:Env}:∀{names:List (Str × NameKind)} {x:Str} {k:NameKind},
 (names.map fun(n,k)=>if(k==NameKind.free && env.scope.kind== .function && env.kindOf n==some .cell) then(n,NameKind.cell) else(n,k)).lookup x=some k→
 names.lookup x=some k∨(k= .cell∧names.lookup x=some .free)
 | [],_,_,h=>by simp at h
 | (n,k) ::r,x,k',h=>by
   have ih:=@eK env r x k'
   have h:List.lookup x ((if(k==NameKind.free && env.scope.kind== .function && env.kindOf n==some .cell)=true then(n,NameKind.cell) else(n,k)) ::_)=some k':=h
   by_cases hc:(k==NameKind.free && env.scope.kind== .function && env.kindOf n==some .cell)=true
   ·rw[if_pos hc] at h
    have hkf:k= .free:=by
     simp only[Bool.and_eq_true,beq_iff_eq] at hc
     exact hc.1.1
    cases hx:x==n with
    | true=>
      rw[List.lookup_cons,hx] at h
      cases h
      exact .inr ⟨rfl,by rw[List.lookup_cons,hx,hkf]⟩
    | false=>
      rw[List.lookup_cons,hx] at h
      rw[List.lookup_cons,hx]
      exact ih h
   ·rw[if_neg hc] at h
    cases hx:x==n with
    | true=>
      rw[List.lookup_cons,hx] at h
      rw[List.lookup_cons,hx]
      exact .inl h
    | false=>
      rw[List.lookup_cons,hx] at h
      rw[List.lookup_cons,hx]
      exact ih h
theorem mP{pins:List (Addr × Obj)}{σ:St}{H:Hp}{s:Shared}(C:cq X scope own kp kn)(I:Inv X pins σ H s):∀y∈scope.names,y.2= .free→∃c,X.env.cells.lookup y.1=some c:=fun y hy hf=>
 I.ok.has y.1 (C.free y hy hf)
theorem AD{pins:List (Addr × Obj)}{σ:St}{H:Hp}{s:Shared}{fp:List Addr}{h₁:Heap}{tk:Nat}(C:cq X scope own kp kn)(I:Inv X pins σ H s)(hf:∀b∈fp,pf X pins H b)(hb:∀b∈fp,b < s.heap.objs.size)
 (hn:h₁.Ns s.heap.objs.size (fun _=>none)) (hk:∀b o,s.heap.get? b=some o→h₁.get? b=some o):Inv (bB X scope (own++kn) fp s H) [] (dz own kp σ) H {s with heap:=h₁,toks:=tk}:=by
 have cl:∀x c,(pz X.env.cells scope.names []).lookup x=some c→X.env.cells.lookup x=some c:=fun x c e=>by
  rcases kT scope.names [] e with q | ⟨q1,q2⟩
  ·simp at q
  ·obtain⟨c',hc'⟩:=mP C I (x, .free) q1 rfl
   have hc':X.env.cells.lookup x=some c':=hc'
   rw[hc'] at q2
   rw[hc',q2]
   rfl
 have clh:∀x,scope.names.lookup x=some .free→∃c,(pz X.env.cells scope.names []).lookup x=some c:=fun x hx=>vj scope.names [] (.inl (PySem.mem_of_lookup hx))
 refine⟨⟨I.ok.mod,C.kind,I.ok.glob,I.ok.blt,Nat.le_refl _,fun x y c h1 h2=>I.ok.inj x y c (cl x c h1) (cl y c h2),fun x hx=>?_,fun x c h=>(by cases h),I.ok.hd,I.ok.frames, .inl rfl,fun b hb'=>⟨Nat.ne_of_lt (hb b hb'),fun x c e z=>(hf b hb').2.2.2.2.1 x c (cl x c e) z⟩,
  fun b o e=>I.bs b o e,Nat.le_trans I.ok.bsz I.sz,fun b o e hb'=>?_,fun b hb' hs=>?_,I.stack,I.x8⟩,
  rfl,I.bare,Un.kept hk,⟨_,hn,fun i x v h1 h2 h3=>?_⟩,fun x c e=>?_,I.hok.fresh (Nat.le_refl _),fun x c e=>I.freeC x c (cl x c e),fun p hp=>(by cases hp),I.hok.kept hk,?_⟩
 ·have hx:(relabel scope X.env).names.lookup x=some .cell∨(relabel scope X.env).names.lookup x=some .free:=hx
  rcases hx with hx | hx
  ·rcases eK hx with q | ⟨_,q⟩
   ·exact absurd rfl (C.nocell _ (PySem.mem_of_lookup q))
   ·exact clh x q
  ·rcases eK hx with q | ⟨q,_⟩
   ·exact clh x q
   ·cases q
 ·rcases(hf b hb').2.2.2.1 with z | z
  ·exact I.ok.noex b o e z
  ·exact absurd (Nat.lt_of_lt_of_le (Heap.lt_size (I.ok.bs b o e).1) z) (Nat.lt_irrefl _)
 ·rcases List.mem_cons.mp (I.wx b hs) with z | z
  ·exact(hf b hb').2.1 z
  ·exact(hf b hb').2.2.1 z
 ·-- a kept name
  have h1:(own++kn)[i]? =some x:=h1
  have h2:(dz own kp σ)[i]? =some (some v):=h2
  unfold dz at h2
  by_cases hi:i < own.length
  ·rw[List.getElem?_append_left (by simpa using hi),List.getElem?_replicate] at h2
   split at h2 <;> cases h2
  ·rw[List.getElem?_append_right (by simpa using hi),List.length_replicate,List.getElem?_map] at h2
   rw[List.getElem?_append_right (by simpa using hi)] at h1
   cases e:kp[i - own.length]? with
   | none=>rw [e] at h2;cases h2
   | some j=>
     rw[e] at h2
     have h2:(σ[j]?).getD none=some v:=Option.some.inj h2
     have hj:X.N[j]? =some x:=C.at_ _ j x e h1
     have hσ:σ[j]? =some (some v):=by
      cases q:σ[j]? with
      | none=>rw [q] at h2;cases h2
      | some y=>rw [q] at h2;exact congrArg some h2
     have hfree:scope.names.lookup x=some .free:=C.isfree x (List.mem_of_getElem? h1)
     have hkind:=C.free (x, .free) (PySem.mem_of_lookup hfree) rfl
     obtain⟨m,hm,hl⟩:=I.loc
     obtain⟨u,r,l⟩:=hl j x v hj hσ (hkind.elim (fun q=>Or.inr (Or.inl q)) fun q=>Or.inr (Or.inr q))
     refine⟨u,r, .inr ⟨?_,?_⟩⟩
     ·have h3:(relabel scope X.env).names.lookup x=some .local∨(relabel scope X.env).names.lookup x=some .cell∨(relabel scope X.env).names.lookup x=some .free:=h3
      rcases h3 with q | q | q
      ·rcases eK q with z | ⟨z,_⟩
       ·rw[hfree] at z;cases z
       ·cases z
      ·exact .inl q
      ·exact .inr q
     ·rcases l with⟨k,_⟩ | ⟨_,c,hc,hcell⟩
      ·rcases hkind with q | q
       ·rw[show X.env.kindOf x=some .cell from q] at k;cases k
       ·rw[show X.env.kindOf x=some .free from q] at k;cases k
      ·obtain⟨c',hc'⟩:=clh x hfree
       have:=cl x c' hc'
       rw[hc] at this
       cases this
       obtain⟨o,ho,hd⟩:=hcell
       exact⟨c,hc',o,hk c o ho,hd⟩
 ·obtain⟨v,o,ho,hd⟩:=I.cell x c (cl x c e)
  exact⟨v,o,hk c o ho,hd⟩
 ·show(dz own kp σ).length=(own++kn).length
  unfold dz
  rw[List.length_append,List.length_replicate,List.length_map,List.length_append,C.names]
theorem p9{pins:List (Addr × Obj)}{σ σ':St}{H H':Hp}{s s':Shared}{fp:List Addr}{N':List Str}(I:Inv X pins σ H s)(hf:∀b∈fp,pf X pins H b)(J:Inv (bB X scope N' fp s H) [] σ' H' s'):Inv X pins σ H' s':=
 I.Im (ch:=fp) J.os J.base J.hok J.bare fun b hb=>⟨(hf b hb).2.2.2.1,(hf b hb).2.1,(hf b hb).2.2.2.2.1,(hf b hb).2.2.2.2.2⟩
end
noncomputable def nW(X:Cx)(ifs:List Expr)(t:TT):Prop:=
 ∀(pins:List (Addr × Obj)) (s:Shared) (σ:St) (H:Hp) (Q:Bool→Hp→Prop),Inv X pins σ H s→t σ H Q→
  wpAny (model X.prog X.w) X.A (forIn ifs true fun c r=>if r=true then do let ok ←isTrue c X.env (eval c X.env);pure (ForInStep.yield ok) else pure (ForInStep.yield r)) (TP X pins σ Q) X.xe s
noncomputable def JX:TT:=fun _ H Q=>Q true H
theorem u_{X:Cx}:nW X [] JX:=fun _ _ _ H _ I h=>wpAny_tests_nil ⟨H,I,h⟩
theorem uC{X:Cx}{c:Expr}{t:TT}(h:PT X c t):nW X [c] t:=fun pins s σ H Q I hq=>wpAny_tests_one (h pins s σ H Q I hq)
noncomputable def yk(wi:TI)(g:TG)(tc:TT)(te:TE)(own:List Str)(kp:List Nat):TE:=fun σ H Q=>wi σ H fun J H1=>∀D,H1 D=none→
 ∃W:Nat→Nat→List V→Hp→Prop,(∃m,W 0 m [] (upd H1 D (.lst [])))∧∀i m ys H,W i m ys H→
  (J.stop i H∧Q (.ref D) H)∨(J.go i H∧∀x H',J.yld i H x H'→g x (dz own kp σ) H' fun σ2 H2=>tc σ2 H2 fun c H3=>
    if c=true then te σ2 H3 fun y H4=>H4 D=some (.lst ys)∧ys.length < sizeLine∧∃m',m' < m∧W (i+1) m' (ys++[y]) (upd H4 D (.lst (ys++[y])))
    else ∃m',m' < m∧W (i+1) m' ys H3)
section
variable {X:Cx} {scope:Scope} {own:List Str} {kp:List Nat} {kn:List Str} {tg iter elt:Expr} {ifs:List Expr} {wi:TI} {g:TG} {tc:TT} {te:TE} {pos:Pos}
theorem uS{pins:List (Addr × Obj)}{σ:St}{H:Hp}{s:Shared}{fp:List Addr}{it D:Addr}{tn:Nat→Heap→Prop}{J:It}{Q:VK}{h₁:Heap}{tk:Nat}{R:Result→Shared→Prop}
 (hc:X.calm=true) (C:cq X scope own kp kn) (I:Inv X pins σ H s) (hf:∀b∈fp,pf X pins H b) (hb:∀b∈fp,b < s.heap.objs.size) (T:Turn X.prog X.w X.K tg J fp it tn)
 (hg:PG (bB X scope (own++kn) fp s H) tg g) (hi:nW (bB X scope (own++kn) fp s H) ifs tc) (he:PE (bB X scope (own++kn) fp s H) elt te)
 (hn:h₁.Ns s.heap.objs.size (fun _=>none)) (hk:∀b o,s.heap.get? b=some o→h₁.get? b=some o) (st:tn 0 s.heap)
 (W:Nat→Nat→List V→Hp→Prop) (w0:∃m,W 0 m [] H)
 (turn:∀i m ys H,W i m ys H→
   (J.stop i H∧Q (.ref D) H)∨(J.go i H∧∀x H',J.yld i H x H'→g x (dz own kp σ) H' fun σ2 H2=>tc σ2 H2 fun c H3=>
     if c=true then te σ2 H3 fun y H4=>H4 D=some (.lst ys)∧ys.length < sizeLine∧∃m',m' < m∧W (i+1) m' (ys++[y]) (upd H4 D (.lst (ys++[y])))
     else ∃m',m' < m∧W (i+1) m' ys H3))
 (hR:∀H' s' σ',Inv (bB X scope (own++kn) fp s H) [] σ' H' s'→Q (.ref D) H'→R (.ok .next) s') :
 codeAny (model X.prog X.w) X.A (.compStart (.ListComp elt [⟨tg,iter,ifs,0⟩] scope pos) 0 (.ref it) (.ref D) (bB X scope (own++kn) fp s H).env) R {s with heap:=h₁,toks:=tk}:=by
 have I1:Inv (bB X scope (own++kn) fp s H) [] (dz own kp σ) H {s with heap:=h₁,toks:=tk}:=AD C I hf hb hn hk
 have st1:tn 0 h₁:=T.keep _ _ _ st fun b _ o e=>hk b o e
 have fp1:∀{H':Hp} {p:List (Addr × Obj)},(∀b∈fp,H' b=none)→(∀b∈fp,∀q∈p,q.1≠b)→∀b∈fp,pf (bB X scope (own++kn) fp s H) p H' b:=fun {H' p} hn hp b hb'=>
  ⟨hn b hb',(I1.ok.exf b hb').1,I1.ok.exfs b hb', .inl hb',fun x c e=>(I1.ok.exf b hb').2 x c e,fun q hq=>hp b hb' q hq⟩
 obtain⟨m0,w0⟩:=w0
 have loop:codeAny (model X.prog X.w) X.A (.compLoop (.ListComp elt [⟨tg,iter,ifs,0⟩] scope pos) 0 (.ref it) (.ref D) (bB X scope (own++kn) fp s H).env) R {s with heap:=h₁,toks:=tk}:=by
  refine codeAny_loop rfl (fun n s'=>∃i ys H',Inv (bB X scope (own++kn) fp s H) [] (dz own kp σ) H' s'∧tn i s'.heap∧(∀b∈fp,H' b=none)∧W i n ys H') (fun n s' hI=>?_) m0 ⟨0,[],H,I1,st1,fun b hb'=>(hf b hb').1,w0⟩
  obtain⟨i,ys,H3,I3,st3,fr3,w3⟩:=hI
  show wpAny _ _ ((compTurn (.ListComp elt [⟨tg,iter,ifs,0⟩] scope pos) 0 (.ref it) (.ref D) (bB X scope (own++kn) fp s H).env).onRaise (fun x=>do noteFrame x (bB X scope (own++kn) fp s H).env;theTreesLotGoes x)) _ _ s'
  refine wpAny_noted (wpAny_noRaise ?_)
  rw[compTurn_list]
  refine wpAny_bind (wpAny_standAt (wpAny_bind ?_))
  rcases turn i n ys H3 w3 with⟨stop,q⟩ | ⟨go,step⟩
  ·refine dN (T.done (bB X scope (own++kn) fp s H) rfl rfl rfl hc i [] s' _ H3 _ I3 (fp1 fr3 (fun _ _ q hq=>by cases hq)) st3 stop) fun r s4 ⟨hr,I4⟩=>?_
   subst hr
   exact wpAny_pure (hR H3 s4 _ I4 q)
  ·refine dN (T.item (bB X scope (own++kn) fp s H) rfl rfl rfl hc i [] s' _ H3 _ I3 (fp1 fr3 (fun _ _ q hq=>by cases hq)) st3 go) fun r s4 ⟨u,hr,h4⟩=>?_
   subst hr
   refine wpAny_bind (dN h4 fun _ s5 ⟨x,H5,I5,r5,y5,st5,fr5⟩=>?_)
   have I5':=I5.pinned (fp1 fr5 (fun _ _ q hq=>by cases hq)) (T.obj _ _ st5)
   have keepIt:∀{σ7:St} {H7:Hp} {s7:Shared},Inv (bB X scope (own++kn) fp s H) ([]++mQ fp s5.heap) σ7 H7 s7→tn (i+1) s7.heap∧∀b∈fp,H7 b=none:=fun {σ7 H7 s7} I7=>by
    refine⟨T.keep _ _ _ st5 fun b hb o e=>(I7.pin (b,o) (List.mem_append_right _ (List.mem_append_right _ (jY hb e)))).1,fun b hb=>?_⟩
    obtain⟨o,e,d⟩:=T.obj _ _ st5 b hb
    exact(I7.pin (b,o) (List.mem_append_right _ (List.mem_append_right _ (jY hb e)))).2.1
   have reset:∀{σ7:St} {H7:Hp} {s7:Shared},Inv (bB X scope (own++kn) fp s H) ([]++mQ fp s5.heap) σ7 H7 s7→Inv (bB X scope (own++kn) fp s H) [] (dz own kp σ) H7 s7:=fun {σ7 H7 s7} I7=>by
    have I8:=I7.ni
    have hun:Un (zP X.stack) fp H H7 s.heap s7.heap:=I8.base
    have I9:Inv X pins σ H7 s7:=p9 I hf I8
    refine⟨I8.ok,I8.os,I8.bare,I8.base,?_,I8.cell,I8.free,I8.freeC,I8.pin,I8.hok,I1.len⟩
    obtain⟨m,hm,_⟩:=I8.loc
    refine⟨m,hm,fun i x v h1 h2 h3=>?_⟩
    obtain⟨m1,hm1,hl1⟩:=I1.loc
    obtain⟨u1,r1,l1⟩:=hl1 i x v h1 h2 h3
    have h1:(own++kn)[i]? =some x:=h1
    have h2:(dz own kp σ)[i]? =some (some v):=h2
    unfold dz at h2
    by_cases hi:i < own.length
    ·rw[List.getElem?_append_left (by simpa using hi),List.getElem?_replicate] at h2
     split at h2 <;> cases h2
    ·rw[List.getElem?_append_right (by simpa using hi),List.length_replicate,List.getElem?_map] at h2
     rw[List.getElem?_append_right (by simpa using hi)] at h1
     cases e:kp[i - own.length]? with
     | none=>rw [e] at h2;cases h2
     | some j=>
       rw[e] at h2
       have h2:(σ[j]?).getD none=some v:=Option.some.inj h2
       have hj:X.N[j]? =some x:=C.at_ _ j x e h1
       have hσ:σ[j]? =some (some v):=by
        cases q:σ[j]? with
        | none=>rw [q] at h2;cases h2
        | some y=>rw [q] at h2;exact congrArg some h2
       have hfree:scope.names.lookup x=some .free:=C.isfree x (List.mem_of_getElem? h1)
       have hkind:=C.free (x, .free) (PySem.mem_of_lookup hfree) rfl
       obtain⟨m9,hm9,hl9⟩:=I9.loc
       obtain⟨u,r,l⟩:=hl9 j x v hj hσ (hkind.elim (fun q=>Or.inr (Or.inl q)) fun q=>Or.inr (Or.inr q))
       refine⟨u,r, .inr ?_⟩
       rcases l1 with⟨k,k2⟩ | ⟨k,c,hc,hcell⟩
       ·have k:(relabel scope X.env).names.lookup x=some .local:=k
        rcases eK k with z | ⟨z,_⟩
        ·rw[hfree] at z;cases z
        ·cases z
       ·refine⟨k,c,hc,?_⟩
        rcases l with⟨k',_⟩ | ⟨_,c',hc',hcell'⟩
        ·rcases hkind with q | q
         ·rw[show X.env.kindOf x=some .cell from q] at k';cases k'
         ·rw[show X.env.kindOf x=some .free from q] at k';cases k'
        ·have hcl:(pz X.env.cells scope.names []).lookup x=some c:=hc
         rcases kT scope.names [] hcl with q | ⟨q1,q2⟩
         ·simp at q
         ·rw[hc'] at q2
          have q2:c=c':=q2
          rw[q2]
          exact hcell'
   have hmm:=hg ([]++mQ fp s5.heap) s5 (dz own kp σ) H5 x u _ I5' r5 (step x H5 y5)
   refine wpAny_bind (dN hmm fun _ s6 ⟨σ6,H6,I6,q6⟩=>?_)
   refine wpAny_bind (dN (hi _ s6 σ6 H6 _ I6 q6) fun ok s7 ⟨H7,I7,q7⟩=>?_)
   cases ok with
   | false=>
     simp only[Bool.false_eq_true,if_false] at q7 ⊢
     obtain⟨m',hm',w7⟩:=q7
     obtain⟨a1,a2⟩:=keepIt I7
     exact wpAny_pure ⟨rfl,m',hm',i+1,ys,H7,reset I7,a1,a2,w7⟩
   | true=>
     simp only[if_true] at q7 ⊢
     refine wpAny_bind (wpAny_bind (dN (he _ s7 σ6 H7 _ I7 q7) fun yv s8 ⟨y,H8,I8,r8,hD,hlt,m',hm',w8⟩=>wpAny_bind ?_))
     obtain⟨a1,a2⟩:=keepIt I8
     refine dN (oC _ s8 σ6 H8 (.ref D) [y] (.ref D) [yv] (fun v H9=>v= .cS∧H9=upd H8 D (.lst (ys++[y]))) I8 rfl (.cons r8 .nil) ⟨D,ys,y,rfl,rfl,hD,hlt,rfl,rfl⟩) fun _ s9 ⟨v9,H9,I9,_,_,e9⟩=>?_
     subst e9
     obtain⟨b1,b2⟩:=keepIt I9
     exact wpAny_pure (wpAny_pure ⟨rfl,m',hm',i+1,ys++[y],_,reset I9,b1,b2,w8⟩)
 exact codeAny_compStart_list loop (T.self _ _ _ _ _ st1 loop)
theorem yo(hc:X.calm=true)(C:cq X scope own kp kn)(hi:PI X tg iter wi)(hg:∀fp s H,PG (bB X scope (own++kn) fp s H) tg g)(hif:∀fp s H,nW (bB X scope (own++kn) fp s H) ifs tc)
 (he:∀fp s H,PE (bB X scope (own++kn) fp s H) elt te) (hs:∀x,foldedSetIterable iter X.env x=pure x:=by intro _;rfl):PE X (.ListComp elt [⟨tg,iter,ifs,0⟩] scope pos) (yk wi g tc te own kp):=by
 intro pins s σ H Q I h
 rw[eval_ListComp]
 refine wpAny_comprehension_free (use:=none) rfl hs (kA (mP C I)) C.kind C.nd (dN (hi pins s σ H _ I h) fun v s1 h1=>dN h1 fun itv s2 h2=>?_)
 obtain⟨it,fp,tn,J,H2,e,I2,T,st2,f2,q⟩:=h2
 subst e
 refine wpAny_newObj_type ?_
 have I3:Inv X pins σ (upd H2 s2.heap.objs.size (.lst [])) {s2 with heap:=s2.heap.push {cls:= .type "list",dict:=none,data:= .seq ([]:List Value).toArray}}:=I2.Ds (its:=[]) (t':=s2.toks) .nil (Nat.zero_le _)
 obtain⟨W,w0,turn⟩:=q s2.heap.objs.size I2.fresh
 have fne:∀b∈fp,b < s2.heap.objs.size:=fun b hb=>let⟨o,e,_⟩:=T.obj _ _ st2 b hb;Heap.lt_size e
 have f3:∀b∈fp,pf X pins (upd H2 s2.heap.objs.size (.lst [])) b:=fun b hb=>⟨by rw[bf (Nat.ne_of_lt (fne b hb))];exact(f2 b hb).1,(f2 b hb).2⟩
 generalize hs3:({s2 with heap:=s2.heap.push {cls:= .type "list",dict:=none,data:= .seq ([]:List Value).toArray}}:Shared)=s3 at I3 ⊢
 have st3:tn 0 s3.heap:=by rw[←hs3];exact T.keep _ _ _ st2 fun b _ o e=>Heap.get?_push_of_some _ e
 have fne3:∀b∈fp,b < s3.heap.objs.size:=fun b hb=>by rw[←hs3];exact Nat.lt_of_lt_of_le (fne b hb) (by rw[Heap.size_push];exact Nat.le_succ _)
 refine wpAny_newFunctionEnv (fun y hy=>C.nocell y hy) (by intro y hy;simp at hy) (fun h₁ hns₁ hsb₁=>?_) C.kind
 have hk:∀b o,s3.heap.get? b=some o→h₁.get? b=some o:=fun b o e=>hsb₁.extBut b o (Nat.ne_of_lt (Heap.lt_size e)) (Heap.get?_push_of_some _ e)
 refine uS (D:=s2.heap.objs.size) hc C I3 f3 fne3 T (hg fp s3 _) (hif fp s3 _) (he fp s3 _) hns₁ hk st3 W w0 turn fun H' s' σ' J' hq=>?_
 have B:=p9 I3 f3 J'
 obtain⟨m',hm',_⟩:=J'.loc
 refine⟨m',hm',fun h' sb=>⟨.ref s2.heap.objs.size,H',?_,rfl,hq⟩⟩
 have fC:=I3.rA (H':=H') (b:=s3.heap.objs.size) (Nat.le_refl _) J'.free
 exact B.turned (it:=s3.heap.objs.size) (t':=s'.toks) (fun b o hb e=>(sb.2 b hb).trans e) fC.1 fC.2.1 fC.2.2.2.1 fC.2.2.2.2.1 fC.2.2.2.2.2
theorem qk{i:Nat}{x:Str}{pos' spos:Pos}(hc:X.calm=true)(hN:X.N.Nodup)(hx:X.N[i]? =some x)(hxl:X.env.scope.names.lookup x=some .local)(C:cq X scope own kp kn)(hi:PI X tg iter wi)
 (hg:∀fp s H,PG (bB X scope (own++kn) fp s H) tg g) (hif:∀fp s H,nW (bB X scope (own++kn) fp s H) ifs tc)
 (he:∀fp s H,PE (bB X scope (own++kn) fp s H) elt te)
 (hsw:swapsWith (.ListComp elt [⟨tg,iter,ifs,0⟩] scope pos) (some (.Name x pos')) spos.line X.env=pure true:=by rfl)
 (hs:∀x,foldedSetIterable iter X.env x=pure x:=by intro _;rfl) :
 PS X (.Assign [.Name x pos'] (.ListComp elt [⟨tg,iter,ifs,0⟩] scope pos) spos) (zG (yk wi g tc te own kp) (qo i)):=by
 intro pins s σ H D I h
 rw[exec_Assign_Name_used _ _ _ _ hsw]
 refine wpAny_bind (wpAny_standAt (wpAny_bind ?_))
 show wpAny _ X.A (do let _ ←comprehension (.ListComp elt [⟨tg,iter,ifs,0⟩] scope pos) scope X.env _ (newList []) false (eval iter X.env) (some (assign (.Name x pos') X.env))) _ _ s
 refine wpAny_bind (wpAny_mono (wpAny_comprehension_free (use:=some (assign (.Name x pos') X.env)) (Q:=fun _ s'=>SP X pins D .next s') rfl hs (kA (mP C I)) C.kind C.nd
  (dN (hi pins s σ H _ I h) fun v s1 h1=>dN h1 fun itv s2 h2=>?_)) (fun _ s' hq=>wpAny_pure (wpAny_pure hq)) fun _ _ e=>e)
 obtain⟨it,fp,tn,J,H2,e,I2,T,st2,f2,q⟩:=h2
 subst e
 refine wpAny_newObj_type ?_
 have I3:Inv X pins σ (upd H2 s2.heap.objs.size (.lst [])) {s2 with heap:=s2.heap.push {cls:= .type "list",dict:=none,data:= .seq ([]:List Value).toArray}}:=I2.Ds (its:=[]) (t':=s2.toks) .nil (Nat.zero_le _)
 obtain⟨W,w0,turn⟩:=q s2.heap.objs.size I2.fresh
 have fne:∀b∈fp,b < s2.heap.objs.size:=fun b hb=>let⟨o,e,_⟩:=T.obj _ _ st2 b hb;Heap.lt_size e
 have f3:∀b∈fp,pf X pins (upd H2 s2.heap.objs.size (.lst [])) b:=fun b hb=>⟨by rw[bf (Nat.ne_of_lt (fne b hb))];exact(f2 b hb).1,(f2 b hb).2⟩
 generalize hs3:({s2 with heap:=s2.heap.push {cls:= .type "list",dict:=none,data:= .seq ([]:List Value).toArray}}:Shared)=s3 at I3 ⊢
 have st3:tn 0 s3.heap:=by rw[←hs3];exact T.keep _ _ _ st2 fun b _ o e=>Heap.get?_push_of_some _ e
 have fne3:∀b∈fp,b < s3.heap.objs.size:=fun b hb=>by rw[←hs3];exact Nat.lt_of_lt_of_le (fne b hb) (by rw[Heap.size_push];exact Nat.le_succ _)
 refine wpAny_newFunctionEnv (fun y hy=>C.nocell y hy) (by intro y hy;simp at hy) (fun h₁ hns₁ hsb₁=>?_) C.kind
 have hk:∀b o,s3.heap.get? b=some o→h₁.get? b=some o:=fun b o e=>hsb₁.extBut b o (Nat.ne_of_lt (Heap.lt_size e)) (Heap.get?_push_of_some _ e)
 refine uS (Q:=fun x H1=>qo i x σ H1 D.nx) (D:=s2.heap.objs.size) hc C I3 f3 fne3 T (hg fp s3 _) (hif fp s3 _) (he fp s3 _) hns₁ hk st3 W w0 turn fun H' s' σ' J' hq=>?_
 have B:=p9 I3 f3 J'
 obtain⟨m',hm',_⟩:=J'.loc
 have fC:=I3.rA (H':=H') (b:=s3.heap.objs.size) (Nat.le_refl _) J'.free
 show wpAny _ X.A (assign (.Name x pos') X.env (.ref s2.heap.objs.size)) _ _ s'
 refine wpAny_assign_Name (rO B hN hx (.inl hxl) (v:= .ref s2.heap.objs.size) rfl (fun s4 I4 ⟨a,sb,ha⟩=>?_) (.inr hxl))
 have ha':s3.heap.objs.size≠a:=by
  rcases ha with rfl | z
  ·exact fC.2.1
  ·exact fun e=>fC.2.2.2.2.1 x a z e.symm
 refine⟨m',hm'.sameBut sb ha',fun h' sb'=>⟨_,H',?_,hq⟩⟩
 exact I4.turned (it:=s3.heap.objs.size) (t':=s4.toks) (fun b o hb e=>(sb'.2 b hb).trans e) fC.1 fC.2.1 fC.2.2.2.1 fC.2.2.2.2.1 fC.2.2.2.2.2
end
end L2
end
section
set_option maxRecDepth 100000
set_option maxHeartbeats 4000000
namespace L2
open PySem PySem.Spec PyProof.Rows
inductive D where
 | cS | bl (b:Bool) | int (i:Int) | str (x:Str) | lst (ds:List D) | tup (ds:List D) | dct (ks:List Key) (ds:List D)
inductive R (α:Type) where
 | ok (a:α) | ex (c:Nat) | no
noncomputable def R.bind{α β:Type}:R α→(α→R β)→R β
 | .ok a,f=>f a
 | .ex c,_=> .ex c
 | .no,_=> .no
theorem R.aq{α β:Type}{r:R α}{f:α→R β}{b:β}(h:r.bind f= .ok b):∃a,r= .ok a∧f a= .ok b:=by
 cases r with
 | ok a=>exact⟨a,rfl,h⟩
 | ex c=>cases h
 | no=>cases h
@[simp] theorem R.aM{α β:Type}(a:α)(f:α→R β):(R.ok a).bind f=f a:=rfl
noncomputable def R.cc{α:Type}(c:Bool)(r:R α):R α:=if c then r else .no
theorem R.br{α:Type}{c:Bool}{r:R α}{a:α}(h:R.cc c r= .ok a):c=true∧r= .ok a:=by
 cases c with
 | true=>exact⟨rfl,h⟩
 | false=>cases h
@[simp] theorem R.fM{α:Type}(r:R α):R.cc true r=r:=rfl
noncomputable def qW(K:PySem.W.Frag)(B:List Addr)(H:Hp)(a:Addr)(xs:List V):Prop:=
 (a ∉ B∧Rd H a (.lst xs))∨∃(its:List Value) (n:Nat),K.lookup a=some {cls:= .type "list",data:= .seq its.toArray n}∧xs.length≤sizeLine∧Vals xs its
noncomputable def sL(K:PySem.W.Frag)(B:List Addr)(H:Hp)(a:Addr)(xs:List V):Prop:=
 (a ∉ B∧Rd H a (.tup xs))∨∃(o:Obj) (its:Array Value) (n:Nat),K.lookup a=some o∧o.cls= .type "tuple"∧o.data= .seq its n∧its.size≤sizeLine∧Vals xs its.toList
theorem qW.sq{K:PySem.W.Frag}{B:List Addr}{H:Hp}{a:Addr}{xs:List V}(h:qW K B H a xs):nV K H a xs:=by
 rcases h with z | ⟨its,n,hk,hz,r⟩
 ·exact .inl z.2
 ·exact .inr ⟨_,its.toArray,n,hk,rfl,rfl,rfl,by rw[List.size_toArray,←r.length];exact hz,by simpa using r⟩
theorem sL.sq{K:PySem.W.Frag}{B:List Addr}{H:Hp}{a:Addr}{xs:List V}(h:sL K B H a xs):pC K H a xs:=h.elim (fun z=> .inl z.2) .inr
mutual
noncomputable def Rep(K:PySem.W.Frag)(B:List Addr)(H:Hp):D→V→Prop
 | .cS,v=>v= .cS
 | .bl b,v=>v= .bl b
 | .int i,v=>v= .int i
 | .str x,v=>v= .str x
 | .lst ds,v=>∃a xs,v= .ref a∧qW K B H a xs∧aH K B H ds xs
 | .tup ds,v=>∃a xs,v= .ref a∧sL K B H a xs∧aH K B H ds xs
 | .dct ks ds,v=>∃(a:Addr) (kvs:List (Key × V)),v= .ref a∧(a ∉ B∧H a=some (.dK kvs))∧kvs.map (·.1)=ks∧aH K B H ds (kvs.map (·.2))
noncomputable def aH(K:PySem.W.Frag)(B:List Addr)(H:Hp):List D→List V→Prop
 | [],xs=>xs=[]
 | d ::ds,xs=>∃x r,xs=x ::r∧Rep K B H d x∧aH K B H ds r
end
noncomputable def dE(B:List Addr)(H:Hp)(B':List Addr)(H':Hp):Prop:=∀b o,H b=some o→b ∉ B→H' b=some o∧b ∉ B'
theorem dE.rd{B B':List Addr}{H H':Hp}(p:dE B H B' H'){a:Addr}{u:HO}(h:Rd H a u)(n:a ∉ B):Rd H' a u∧a ∉ B':=by
 rcases h with e | ⟨o,e⟩
 ·exact⟨.inl (p a _ e n).1,(p a _ e n).2⟩
 ·exact⟨.inr ⟨o,(p a _ e n).1⟩,(p a _ e n).2⟩
theorem dE.trans{B B' B'':List Addr}{H H' H'':Hp}(p:dE B H B' H')(q:dE B' H' B'' H''):dE B H B'' H'':=fun b o e n=>
 let⟨e1,n1⟩:=p b o e n;q b o e1 n1
theorem dE.same{B:List Addr}{H H':Hp}(s:aU H H'):dE B H B H':=fun b o e n=>⟨s b o e,n⟩
theorem dE.refl(B:List Addr)(H:Hp):dE B H B H:=dE.same (aU.refl H)
theorem qW.bq{K:PySem.W.Frag}{B B':List Addr}{H H':Hp}(p:dE B H B' H'){a:Addr}{xs:List V}(l:qW K B H a xs):qW K B' H' a xs:=
 l.elim (fun z=> .inl ⟨(p.rd z.2 z.1).2,(p.rd z.2 z.1).1⟩) .inr
mutual
theorem Rep.bq{K:PySem.W.Frag}{B B':List Addr}{H H':Hp}(p:dE B H B' H'):∀{d:D} {v:V},Rep K B H d v→Rep K B' H' d v
 | .cS,_,h=>h
 | .bl _,_,h=>h
 | .int _,_,h=>h
 | .str _,_,h=>h
 | .lst ds,v,h=>by
   unfold Rep at h ⊢
   obtain⟨a,xs,e,l,r⟩:=h
   exact⟨a,xs,e,l.bq p,aH.bq p r⟩
 | .tup ds,v,h=>by
   unfold Rep at h ⊢
   obtain⟨a,xs,e,l,r⟩:=h
   exact⟨a,xs,e,l.elim (fun z=> .inl ⟨(p.rd z.2 z.1).2,(p.rd z.2 z.1).1⟩) .inr,aH.bq p r⟩
 | .dct ks ds,v,h=>by
   unfold Rep at h ⊢
   obtain⟨a,kvs,e,⟨n,l⟩,k,r⟩:=h
   exact⟨a,kvs,e,⟨(p a _ l n).2,(p a _ l n).1⟩,k,aH.bq p r⟩
theorem aH.bq{K:PySem.W.Frag}{B B':List Addr}{H H':Hp}(p:dE B H B' H'):∀{ds:List D} {xs:List V},aH K B H ds xs→aH K B' H' ds xs
 | [],_,h=>h
 | d ::ds,xs,h=>by
   unfold aH at h ⊢
   obtain⟨x,r,e,h1,h2⟩:=h
   exact⟨x,r,e,Rep.bq p h1,aH.bq p h2⟩
end
theorem Rep.same{K:PySem.W.Frag}{B:List Addr}{H H':Hp}{d:D}{v:V}(h:Rep K B H d v)(s:aU H H'):Rep K B H' d v:=h.bq (dE.same s)
theorem aH.same{K:PySem.W.Frag}{B:List Addr}{H H':Hp}{d:List D}{v:List V}(h:aH K B H d v)(s:aU H H'):aH K B H' d v:=h.bq (dE.same s)
theorem aH.nil{K:PySem.W.Frag}{B:List Addr}{H:Hp}:aH K B H [] []:=by unfold aH;rfl
theorem aH.cons{K:PySem.W.Frag}{B:List Addr}{H:Hp}{d:D}{ds:List D}{x:V}{xs:List V}(h:Rep K B H d x)(t:aH K B H ds xs):aH K B H (d ::ds) (x ::xs):=by
 unfold aH;exact⟨x,xs,rfl,h,t⟩
theorem aH.cC{K:PySem.W.Frag}{B:List Addr}{H:Hp}{d:D}{ds:List D}{xs:List V}(h:aH K B H (d ::ds) xs):∃x r,xs=x ::r∧Rep K B H d x∧aH K B H ds r:=by
 unfold aH at h;exact h
theorem aH.length{K:PySem.W.Frag}{B:List Addr}{H:Hp}:∀{ds:List D} {xs:List V},aH K B H ds xs→ds.length=xs.length
 | [],_,h=>by unfold aH at h;rw [h];rfl
 | d ::ds,xs,h=>by
   obtain⟨x,r,rfl,_,h2⟩:=h.cC
   simp [h2.length]
theorem aH.get{K:PySem.W.Frag}{B:List Addr}{H:Hp}:∀{ds:List D} {xs:List V} {i:Nat} {d:D},aH K B H ds xs→ds[i]? =some d→∃x,xs[i]? =some x∧Rep K B H d x
 | [],_,_,_,_,e=>by simp at e
 | d ::ds,xs,0,d',h,e=>by
   obtain⟨x,r,rfl,h1,h2⟩:=h.cC
   simp at e;subst e
   exact⟨x,rfl,h1⟩
 | d ::ds,xs,i+1,d',h,e=>by
   obtain⟨x,r,rfl,h1,h2⟩:=h.cC
   obtain⟨y,e1,e2⟩:=aH.get (i:=i) h2 (by simpa using e)
   exact⟨y,by simpa using e1,e2⟩
theorem aH.append{K:PySem.W.Frag}{B:List Addr}{H:Hp}:∀{ds es:List D} {xs ys:List V},aH K B H ds xs→aH K B H es ys→aH K B H (ds++es) (xs++ys)
 | [],_,_,_,h,t=>by unfold aH at h;subst h;exact t
 | d ::ds,es,xs,ys,h,t=>by
   obtain⟨x,r,rfl,h1,h2⟩:=h.cC
   exact aH.cons h1 (aH.append h2 t)
theorem aH.drop{K:PySem.W.Frag}{B:List Addr}{H:Hp}:∀{ds:List D} {xs:List V} (n:Nat),aH K B H ds xs→aH K B H (ds.drop n) (xs.drop n)
 | _,_,0,h=>h
 | [],_,n+1,h=>by unfold aH at h;subst h;exact aH.nil
 | d ::ds,xs,n+1,h=>by
   obtain⟨x,r,rfl,h1,h2⟩:=h.cC
   exact aH.drop n h2
theorem aH.take{K:PySem.W.Frag}{B:List Addr}{H:Hp}:∀{ds:List D} {xs:List V} (n:Nat),aH K B H ds xs→aH K B H (ds.take n) (xs.take n)
 | _,_,0,h=>aH.nil
 | [],_,n+1,h=>by unfold aH at h;subst h;exact aH.nil
 | d ::ds,xs,n+1,h=>by
   obtain⟨x,r,rfl,h1,h2⟩:=h.cC
   exact aH.cons h1 (aH.take n h2)
noncomputable def D.atom:D→Bool
 | .cS=>true | .bl _=>true | .int _=>true | .str _=>true | _=>false
theorem Rep.atom{K:PySem.W.Frag}{B B':List Addr}{H H':Hp}{d:D}{v:V}(a:d.atom=true)(h:Rep K B H d v):Rep K B' H' d v:=by
 cases d <;> first | exact h | cases a
inductive Sl where
 | un | val (d:D) | bld (ds:List D)
noncomputable abbrev ax:=List Sl
structure d_ (K:PySem.W.Frag) (Z B:List Addr) (H:Hp) (σ:St) (δ:ax):Prop where
 len:δ.length=σ.length
 bs:∀a∈B,∃o,H a=some o
 zb:∀a∈Z,a∈B
 val:∀(i:Nat) (d:D),δ[i]? =some (.val d)→∃v,σ[i]? =some (some v)∧Rep K B H d v
 bld:∀(i:Nat) (ds:List D),δ[i]? =some (.bld ds)→∃a xs,σ[i]? =some (some (.ref a))∧a∈B∧a ∉ Z∧H a=some (.lst xs)∧aH K B H ds xs
 dis:∀(i j:Nat) (a:Addr) (ds es:List D),δ[i]? =some (.bld ds)→δ[j]? =some (.bld es)→σ[i]? =some (some (.ref a))→σ[j]? =some (some (.ref a))→i=j
theorem d_.same{K:PySem.W.Frag}{Z B:List Addr}{H H':Hp}{σ:St}{δ:ax}(E:d_ K Z B H σ δ)(s:aU H H'):d_ K Z B H' σ δ where
 len:=E.len
 bs:=fun a ha=>let⟨o,e⟩:=E.bs a ha;⟨o,s a o e⟩
 zb:=E.zb
 val:=fun i d e=>let⟨v,h1,h2⟩:=E.val i d e;⟨v,h1,h2.same s⟩
 bld:=fun i ds e=>let⟨a,xs,h1,h2,h3,h4,h5⟩:=E.bld i ds e;⟨a,xs,h1,h2,h3,s a _ h4,h5.same s⟩
 dis:=E.dis
noncomputable def rB(δ:ax):ax:=δ.map fun x=>match x with | .bld ds=> .val (.lst ds) | y=>y
theorem PE.imp{X:Cx}{e:Expr}{t t':TE}(h:PE X e t)(w:∀σ H Q,t' σ H Q→t σ H Q):PE X e t':=fun pins s σ H Q I hq=>h pins s σ H Q I (w σ H Q hq)
theorem PT.imp{X:Cx}{e:Expr}{t t':TT}(h:PT X e t)(w:∀σ H Q,t' σ H Q→t σ H Q):PT X e t':=fun pins s σ H Q I hq=>h pins s σ H Q I (w σ H Q hq)
theorem PA.imp{X:Cx}{e:List Expr}{t t':TA}(h:PA X e t)(w:∀σ H Q,t' σ H Q→t σ H Q):PA X e t':=fun pos pins s σ H Q I hq=>h pos pins s σ H Q I (w σ H Q hq)
theorem PS.imp{X:Cx}{e:Stmt}{t t':TS}(h:PS X e t)(w:∀D σ H,t' D σ H→t D σ H):PS X e t':=fun pins s σ H D I hq=>h pins s σ H D I (w D σ H hq)
theorem ue.imp{X:Cx}{e:List Stmt}{t t':TS}(h:ue X e t)(w:∀D σ H,t' D σ H→t D σ H):ue X e t':=fun pins s σ H D I hq=>h pins s σ H D I (w D σ H hq)
theorem PG.imp{X:Cx}{e:Expr}{t t':TG}(h:PG X e t)(w:∀v σ H Q,t' v σ H Q→t v σ H Q):PG X e t':=fun pins s σ H v u Q I r hq=>h pins s σ H v u Q I r (w v σ H Q hq)
theorem PI.imp{X:Cx}{tg e:Expr}{t t':TI}(h:PI X tg e t)(w:∀σ H Q,t' σ H Q→t σ H Q):PI X tg e t':=fun pins s σ H Q I hq=>h pins s σ H Q I (w σ H Q hq)
noncomputable abbrev FD:=ax→R D
noncomputable def tD(K:PySem.W.Frag)(f:FD):TE:=fun σ H Q=>∃Z B δ d,d_ K Z B H σ δ∧f δ= .ok d∧∀v H',aU H H'→Rep K B H' d v→Q v H'
noncomputable def tN(K:PySem.W.Frag)(f:ax→R (List D)):TE:=fun σ H Q=>∃Z B δ ds,d_ K Z B H σ δ∧f δ= .ok ds∧∀a xs H',aU H H'→H a=none→H' a=some (.lst xs)→aH K (a ::B) H' ds xs→Q (.ref a) H'
noncomputable def Ek(K:PySem.W.Frag)(f:ax→R Bool):TT:=fun σ H Q=>∃Z B δ b,d_ K Z B H σ δ∧f δ= .ok b∧∀H',aU H H'→Q b H'
noncomputable def Kh(K:PySem.W.Frag)(f:ax→R (List D)):TA:=fun σ H Q=>∃Z B δ ds,d_ K Z B H σ δ∧f δ= .ok ds∧∀vs H',aU H H'→aH K B H' ds vs→Q vs H'
noncomputable abbrev PD(X:Cx)(e:Expr)(f:FD):Prop:=PE X e (tD X.K f)
noncomputable abbrev PN(X:Cx)(e:Expr)(f:ax→R (List D)):Prop:=PE X e (tN X.K f)
noncomputable abbrev PB(X:Cx)(e:Expr)(f:ax→R Bool):Prop:=PT X e (Ek X.K f)
noncomputable abbrev BY(X:Cx)(es:List Expr)(f:ax→R (List D)):Prop:=PA X es (Kh X.K f)
section
variable {X:Cx}
noncomputable def eNew(f:ax→R (List D)):FD:=fun δ=>(f δ).bind fun ds=> .ok (.lst ds)
theorem GB{e:Expr}{f:ax→R (List D)}(h:PN X e f):PD X e (eNew f):=h.imp fun σ H Q ⟨Z,B,δ,d,E,hf,q⟩=>by
 obtain⟨ds,h1,h2⟩:=R.aq hf
 cases h2
 refine⟨Z,B,δ,ds,E,h1,fun a xs H' s n e r=>q _ H' s ?_⟩
 unfold Rep
 refine⟨a,xs,rfl, .inl ⟨fun ha=>?_, .inl e⟩,r.bq fun b o e nb=>⟨e,fun hb=>nb (List.mem_cons_of_mem _ hb)⟩⟩
 obtain⟨o,ho⟩:=E.bs a ha
 rw[n] at ho;cases ho
theorem vw{B:List Addr}{H:Hp}{p:Addr}{o:HO}(h:H p=none):dE B H (p ::B) (upd H p o):=fun b u e nb=>
 ⟨by rw[bf (cu e h)];exact e,fun hb=>by
   rcases List.mem_cons.mp hb with z | z
   ·exact cu e h z
   ·exact nb z⟩
noncomputable def oY(f:FD):FD:=fun δ=>(f (rB δ)).bind fun d=>R.cc d.atom (.ok d)
noncomputable def o5(f:ax→R Bool):ax→R Bool:=fun δ=>f (rB δ)
noncomputable def ai(i:Nat):FD:=fun δ=>match δ[i]? with | some (.val d)=> .ok d | _=> .no
noncomputable def eC(d:D):FD:=fun _=> .ok d
theorem Gd(i:Nat){x:Str}{pos:Pos}(hN:X.N[i]? =some x:=by rfl)(hv:Ei X.env.scope x:=by first | exact Or.inl rfl | exact Or.inr (Or.inl rfl) | exact Or.inr (Or.inr rfl))(hd:(x==("__debug__":Str))=false:=by decide)
 (hcd:(x==("__classdict__":Str))=false:=by decide):PD X (.Name x pos) (ai i):=(tw hN hv hd hcd).imp fun σ H Q ⟨Z,B,δ,d,E,hf,q⟩=>by
 unfold ai at hf
 split at hf
 ·rename_i d' e
  cases hf
  obtain⟨v,h1,h2⟩:=E.val i d e
  exact⟨v,h1,q v H (aU.refl H) h2⟩
 ·cases hf
theorem mW{e:Expr}{v:V}{d:D}(h:PE X e (tC v))(r:∀B H,Rep X.K B H d v):PD X e (eC d):=h.imp fun σ H Q ⟨Z,B,δ,d',E,hf,q⟩=>by
 cases hf
 exact q v H (aU.refl H) (r B H)
theorem Gf{i j pos}:PD X (.Constant (.int i) j pos) (eC (.int i)):=mW qi fun _ _=>by unfold Rep;rfl
theorem HP{b j pos}:PD X (.Constant (.bool b) j pos) (eC (.bl b)):=mW HK fun _ _=>by unfold Rep;rfl
theorem FE{j pos}:PD X (.Constant .none j pos) (eC .cS):=mW Fu fun _ _=>by unfold Rep;rfl
theorem Fo{x j pos}:PD X (.Constant (.str x) j pos) (eC (.str x)):=mW qD fun _ _=>by unfold Rep;rfl
noncomputable def Glob(K:PySem.W.Frag)(mg:Str→Option Value)(x:Str)(d:D):Prop:=∃(u:Value) (v:V),mg x=some u∧RelV v u∧∀B H,Rep K B H d v
noncomputable def aL:ax→R (List D):=fun _=> .ok []
noncomputable def au(f:FD)(g:ax→R (List D)):ax→R (List D):=fun δ=>(f δ).bind fun d=>(g δ).bind fun ds=> .ok (d ::ds)
theorem Di:BY X [] aL:=j2.imp fun σ H Q ⟨Z,B,δ,d,E,hf,q⟩=>by
 cases hf
 exact q [] H (aU.refl H) aH.nil
theorem AF{e:Expr}{es:List Expr}{f:FD}{g:ax→R (List D)}(h:PD X e f)(t:BY X es g)(hs:starEach (e ::es) X.env=(false,eval e X.env) ::starEach es X.env:=by rfl):BY X (e ::es) (au f g):=
 (ic h t hs).imp fun σ H Q ⟨Z,B,δ,d,E,hf,q⟩=>by
   obtain⟨d1,h1,h2⟩:=R.aq hf
   obtain⟨ds,h3,h4⟩:=R.aq h2
   cases h4
   exact⟨Z,B,δ,d1,E,h1,fun v H1 s1 r1=>⟨Z,B,δ,ds,E.same s1,h3,fun vs H2 s2 r2=>q _ H2 (s1.trans s2) (aH.cons (r1.same s2) r2)⟩⟩
noncomputable def dU(g:ax→R (List D)):FD:=fun δ=>(g δ).bind fun ds=>R.cc (decide (ds.length≤sizeLine)) (.ok (.tup ds))
noncomputable def dA(g:ax→R (List D)):ax→R (List D):=fun δ=>(g δ).bind fun ds=>R.cc (decide (ds.length≤sizeLine)) (.ok ds)
theorem bb{H:Hp}{p:Addr}{o:HO}(h:H p=none):aU H (upd H p o):=fun b u e=>by rw[bf (cu e h)];exact e
theorem Gr{es:List Expr}{g:ax→R (List D)}{x1 pos}(h:BY X es g):PD X (.Tuple es x1 pos) (dU g):=(AH h).imp fun σ H Q ⟨Z,B,δ,d,E,hf,q⟩=>by
 obtain⟨ds,h1,h2⟩:=R.aq hf
 obtain⟨hl,h3⟩:=R.br h2
 cases h3
 refine⟨Z,B,δ,ds,E,h1,fun vs H1 s1 r1=>⟨by rw[←r1.length];exact of_decide_eq_true hl,fun p hp=>q _ _ (s1.trans (bb hp)) ?_⟩⟩
 unfold Rep
 refine⟨p,vs,rfl, .inl ⟨fun ha=>?_, .inl bc⟩,r1.same (bb hp)⟩
 obtain⟨o,ho⟩:=(E.same s1).bs p ha
 rw[hp] at ho;cases ho
theorem Gs{es:List Expr}{g:ax→R (List D)}{pos}(h:BY X es g):PN X (.List es pos) (dA g):=(Cg h).imp fun σ H Q ⟨Z,B,δ,d,E,hf,q⟩=>by
 obtain⟨ds,h1,h2⟩:=R.aq hf
 obtain⟨hl,h3⟩:=R.br h2
 cases h3
 exact⟨Z,B,δ,_,E,h1,fun vs H1 s1 r1=>⟨by rw[←r1.length];exact of_decide_eq_true hl,fun p hp=>q p vs _ (s1.trans (bb hp)) (s1.free hp) bc (r1.bq (vw hp))⟩⟩
noncomputable def kI(X:Cx)(f:Value→Value→Sem Value)(g:D→D→R D):Prop:=
 ∀(pins:List (Addr × Obj)) (s:Shared) (σ:St) (H:Hp) (B:List Addr) (da db d:D) (x y:V) (v u:Value),Inv X pins σ H s→(∀a∈B,∃o,H a=some o)→RelV x v→RelV y u→Rep X.K B H da x→Rep X.K B H db y→g da db= .ok d→
  wpAny (model X.prog X.w) X.A (f v u) (EP X pins σ fun z H'=>aU H H'∧Rep X.K B H' d z) X.xe s
noncomputable def e2(g:D→D→R D)(fa fb:FD):FD:=fun δ=>(fa δ).bind fun a=>(fb δ).bind fun b=>g a b
theorem kI.r{f:Value→Value→Sem Value}{g:D→D→R D}(h:kI X f g):k_ X f (fun x y H Q=>∃B da db d,(∀a∈B,∃o,H a=some o)∧Rep X.K B H da x∧Rep X.K B H db y∧g da db= .ok d∧∀z H',aU H H'→Rep X.K B H' d z→Q z H'):=by
 intro pins s σ H x y v u Q I rx ry ⟨B,da,db,d,hb,ha,hb',hg,q⟩
 exact dN (h pins s σ H B da db d x y v u I hb rx ry ha hb' hg) fun z s' ⟨zv,H',I',r',s1,r1⟩=>⟨zv,H',I',r',q zv H' s1 r1⟩
theorem Hl{K:PySem.W.Frag}{g:D→D→R D}{fa fb:FD}{σ:St}{H:Hp}{Q:VK}(h:tD K (e2 g fa fb) σ H Q) :
 GX (fun x y H Q=>∃B da db d,(∀a∈B,∃o,H a=some o)∧Rep K B H da x∧Rep K B H db y∧g da db= .ok d∧∀z H',aU H H'→Rep K B H' d z→Q z H') (tD K fa) (tD K fb) σ H Q:=by
 obtain⟨Z,B,δ,d,E,hf,q⟩:=h
 obtain⟨d1,h1,h2⟩:=R.aq hf
 obtain⟨d2,h3,h4⟩:=R.aq h2
 exact⟨Z,B,δ,d1,E,h1,fun v1 H1 s1 r1=>⟨Z,B,δ,d2,E.same s1,h3,fun v2 H2 s2 r2=>⟨B,d1,d2,d,(E.same (s1.trans s2)).bs,r1.same s2,r2,h4,fun z H' s3 r3=>q z H' (s1.trans (s2.trans s3)) r3⟩⟩⟩
theorem HR{op:Operator}{g:D→D→R D}{a b:Expr}{fa fb:FD}{pos:Pos}(ho:kI X (binaryOp op) g)(ha:PD X a fa)(hb:PD X b fb):PD X (.BinOp a op b pos) (e2 g fa fb):=
 (xG ho.r ha hb).imp fun σ H Q h=>Hl h
noncomputable def b2(g:D→D→R D)(fa fb:FD):ax→R Bool:=fun δ=>(e2 g fa fb δ).bind fun d=>match d with | .bl b=> .ok b | _=> .no
theorem GD{op:CmpOp}{g:D→D→R D}{a b:Expr}{fa fb:FD}{pos:Pos}(ho:kI X (compareOp op) g)(ha:PD X a fa)(hb:PD X b fb)(hm:behindInMarks op b=false):PB X (.Compare a [op] [b] pos) (b2 g fa fb):=
 (ya ho.r ha hb hm).imp fun σ H Q ⟨Z,B,δ,b,E,hf,q⟩=>by
   obtain⟨d,h1,h2⟩:=R.aq hf
   cases d with
   | bl k=>
     cases h2
     exact Hl (g:=g) (Q:=fun x H'=>∃k,x= .bl k∧Q k H') ⟨Z,B,δ, .bl b,E,h1,fun v H' s r=>⟨b,by unfold Rep at r;exact r,q H' s⟩⟩
   | _=>cases h2
noncomputable def Jp(g g':D→D→R D)(fa fb fc:FD):FD:=fun δ=>(fa δ).bind fun a=>(fb δ).bind fun b=>(g a b).bind fun r=>match r with
 | .bl true=>(fc δ).bind fun c=>g' b c
 | .bl false=> .ok (.bl false)
 | _=> .no
noncomputable def pW:D→R Bool
 | .cS=> .ok false
 | .bl b=> .ok b
 | .int i=> .ok (i !=0)
 | .str x=>R.cc (decide (x.length≤sizeLine)) (.ok ((x.length:Int) !=0))
 | .lst ds=> .ok (!ds.isEmpty)
 | .tup ds=> .ok (!ds.isEmpty)
 | .dct _ _=> .no
noncomputable def ma(f:FD):ax→R Bool:=fun δ=>(f δ).bind pW
theorem aH.isEmpty{K:PySem.W.Frag}{B:List Addr}{H:Hp}{ds:List D}{xs:List V}(h:aH K B H ds xs):ds.isEmpty=xs.isEmpty:=by
 have:=h.length
 cases ds <;> cases xs <;> simp_all
theorem Fi{K:PySem.W.Frag}{B:List Addr}{H:Hp}{d:D}{v:V}{b:Bool}(r:Rep K B H d v)(h:pW d= .ok b):Ga K v H b:=by
 cases d with
 | cS=>unfold Rep at r;subst r;cases h;exact rfl
 | bl k=>unfold Rep at r;subst r;cases h;exact rfl
 | int i=>unfold Rep at r;subst r;cases h;exact rfl
 | str x=>unfold Rep at r;subst r;obtain⟨h1,h2⟩:=R.br h;cases h2;exact⟨of_decide_eq_true h1,rfl⟩
 | lst ds=>unfold Rep at r;obtain⟨a,xs,rfl,l,r⟩:=r;cases h;exact .inl ⟨xs,l.sq,by rw[r.isEmpty]⟩
 | tup ds=>unfold Rep at r;obtain⟨a,xs,rfl,l,r⟩:=r;cases h;exact .inr (.inl ⟨xs,l.sq,by rw[r.isEmpty]⟩)
 | dct _ _=>cases h
theorem FL{a:Expr}{f:FD}(ha:PD X a f)(he:∀whole,isTrue a X.env whole=(do let v ←whole;standAt a.pos;holding [v] (truthy v)):=by intro _;rfl):PB X a (ma f):=
 (Av ha he).imp fun σ H Q ⟨Z,B,δ,b,E,hf,q⟩=>by
   obtain⟨d,h1,h2⟩:=R.aq hf
   exact⟨Z,B,δ,d,E,h1,fun v H' s r=>⟨b,Fi r h2,q H' s⟩⟩
noncomputable def mE(f g:ax→R Bool):ax→R Bool:=fun δ=>(f δ).bind fun b=>if b then g δ else .ok false
noncomputable def xw(f g:ax→R Bool):ax→R Bool:=fun δ=>(f δ).bind fun b=>if b then .ok true else g δ
noncomputable def mm(f:ax→R Bool):ax→R Bool:=fun δ=>(f δ).bind fun b=> .ok (!b)
noncomputable def Cv(X:Cx)(e:Expr)(f:ax→R Bool):Prop:=PW X e (Ek X.K f)
theorem Cv.pb{e:Expr}{f:ax→R Bool}(h:Cv X e f):PB X e f:=PW.pt h
theorem BX{a:Expr}{f:ax→R Bool}{pos:Pos}(h:PB X a f):Cv X (.BoolOp .And [a] pos) f:=yu h
theorem D_{a:Expr}{f:ax→R Bool}{pos:Pos}(h:PB X a f):Cv X (.BoolOp .Or [a] pos) f:=FC h
theorem D1{a b:Expr}{rest:List Expr}{f g:ax→R Bool}{pos:Pos}(ha:PB X a f)(hb:Cv X (.BoolOp .And (b ::rest) pos) g):Cv X (.BoolOp .And (a ::b ::rest) pos) (mE f g):=by
 intro wh pins s σ H Q I ⟨Z,B,δ,k,E,hf,q⟩
 refine Ap ha hb wh pins s σ H Q I ?_
 obtain⟨c,h1,h2⟩:=R.aq hf
 refine⟨Z,B,δ,c,E,h1,fun H1 s1=>?_⟩
 cases c with
 | true=>rw [if_pos rfl] at h2 ⊢;exact⟨Z,B,δ,k,E.same s1,h2,fun H' s2=>q H' (s1.trans s2)⟩
 | false=>rw [if_neg (by decide)] at h2 ⊢;cases h2;exact q H1 s1
theorem Fd{a b:Expr}{rest:List Expr}{f g:ax→R Bool}{pos:Pos}(ha:PB X a f)(hb:Cv X (.BoolOp .Or (b ::rest) pos) g):Cv X (.BoolOp .Or (a ::b ::rest) pos) (xw f g):=by
 intro wh pins s σ H Q I ⟨Z,B,δ,k,E,hf,q⟩
 refine Ht ha hb wh pins s σ H Q I ?_
 obtain⟨c,h1,h2⟩:=R.aq hf
 refine⟨Z,B,δ,c,E,h1,fun H1 s1=>?_⟩
 cases c with
 | true=>rw [if_pos rfl] at h2 ⊢;cases h2;exact q H1 s1
 | false=>rw [if_neg (by decide)] at h2 ⊢;exact⟨Z,B,δ,k,E.same s1,h2,fun H' s2=>q H' (s1.trans s2)⟩
theorem GF{a:Expr}{f:ax→R Bool}{pos:Pos}(ha:PB X a f):PB X (.UnaryOp .Not a pos) (mm f):=(Fp ha).imp fun σ H Q ⟨Z,B,δ,k,E,hf,q⟩=>by
 obtain⟨c,h1,h2⟩:=R.aq hf
 cases h2
 exact⟨Z,B,δ,c,E,h1,fun H1 s1=>q H1 s1⟩
noncomputable def Bb(f:FD):ax→R Bool:=fun δ=>(f δ).bind fun d=>match d with | .bl b=> .ok b | _=> .no
noncomputable def vv(f g:FD):FD:=fun δ=>(Bb f δ).bind fun b=>if b then g δ else .ok (.bl false)
noncomputable def Eu(f g:FD):FD:=fun δ=>(Bb f δ).bind fun b=>if b then .ok (.bl true) else g δ
noncomputable def uN(f:FD):FD:=fun δ=>(Bb f δ).bind fun b=> .ok (.bl (!b))
noncomputable def wW(c:ax→R Bool)(f g:FD):FD:=fun δ=>(c δ).bind fun b=>if b then f δ else g δ
theorem Hy{c a b:Expr}{fc:ax→R Bool}{f g:FD}{pos:Pos}(hc:PB X c fc)(ha:PD X a f)(hb:PD X b g):PD X (.IfExp c a b pos) (wW fc f g):=(A_ hc ha hb).imp fun σ H Q ⟨Z,B,δ,k,E,hf,q⟩=>by
 obtain⟨c,h1,h2⟩:=R.aq hf
 refine⟨Z,B,δ,c,E,h1,fun H1 s1=>?_⟩
 cases c with
 | true=>rw [if_pos rfl] at h2 ⊢;exact⟨Z,B,δ,k,E.same s1,h2,fun v H' s2 r2=>q v H' (s1.trans s2) r2⟩
 | false=>rw [if_neg (by decide)] at h2 ⊢;exact⟨Z,B,δ,k,E.same s1,h2,fun v H' s2 r2=>q v H' (s1.trans s2) r2⟩
noncomputable def fq(X:Cx)(f:Value)(g:List D→R D):Prop:=
 ∀(pins:List (Addr × Obj)) (s:Shared) (σ:St) (H:Hp) (B:List Addr) (ds:List D) (d:D) (xs:List V) (us:List Value),Inv X pins σ H s→(∀a∈B,∃o,H a=some o)→Vals xs us→aH X.K B H ds xs→g ds= .ok d→
  wpAny (model X.prog X.w) X.A (call f us) (EP X pins σ fun z H'=>aU H H'∧Rep X.K B H' d z) X.xe s
noncomputable def aP(g:List D→R D)(fs:ax→R (List D)):FD:=fun δ=>(fs δ).bind g
theorem fq.r{f:Value}{g:List D→R D}(h:fq X f g):nJ X f (fun xs H Q=>∃B ds d,(∀a∈B,∃o,H a=some o)∧aH X.K B H ds xs∧g ds= .ok d∧∀z H',aU H H'→Rep X.K B H' d z→Q z H'):=by
 intro pins s σ H xs us Q I rx ⟨B,ds,d,hb,hr,hg,q⟩
 exact dN (h pins s σ H B ds d xs us I hb rx hr hg) fun z s' ⟨zv,H',I',r',s1,r1⟩=>⟨zv,H',I',r',q zv H' s1 r1⟩
theorem yr{K:PySem.W.Frag}{g:List D→R D}{fs:ax→R (List D)}{σ:St}{H:Hp}{Q:VK}(h:tD K (aP g fs) σ H Q) :
 Kh K fs σ H fun vs H1=>∃B ds d,(∀a∈B,∃o,H1 a=some o)∧aH K B H1 ds vs∧g ds= .ok d∧∀z H',aU H1 H'→Rep K B H' d z→Q z H':=by
 obtain⟨Z,B,δ,d,E,hf,q⟩:=h
 obtain⟨ds,h1,h2⟩:=R.aq hf
 exact⟨Z,B,δ,ds,E,h1,fun vs H1 s1 r1=>⟨B,ds,d,(E.same s1).bs,r1,h2,fun z H' s2 r2=>q z H' (s1.trans s2) r2⟩⟩
theorem Bt{g:List D→R D}{x:Str}{id:String}{p pos:Pos}{e:Expr}{es:List Expr}{fs:ax→R (List D)}(hc:fq X (.builtin id) g)(hg:Gl X x)(hm:X.mg x=none)(hv:bootBuiltins x=some (.builtin id))(ha:BY X (e ::es) fs)(hn:x≠"__name__":=by decide)(hdb:(x==("__debug__":Str))=false:=by decide)
 (he:starEach (e ::es) X.env=(false,eval e X.env) ::starEach es X.env:=by rfl) (hpl:(backTo pos (starEach es X.env)).any (·.1)=false:=by rfl):PD X (.Call (.Name x p) (e ::es) [] pos) (aP g fs):=
 (vA hc.r hg hm hv ha hn hdb he hpl).imp fun σ H Q h=>yr h
theorem y8{g:List D→R D}{x:Str}{T:String}{p pos:Pos}{e:Expr}{es:List Expr}{fs:ax→R (List D)}(hc:fq X (.type T) g)(hg:Gl X x)(hm:X.mg x=none)(hv:bootBuiltins x=some (.type T))(ha:BY X (e ::es) fs)(hn:x≠"__name__":=by decide)(hdb:(x==("__debug__":Str))=false:=by decide)
 (he:starEach (e ::es) X.env=(false,eval e X.env) ::starEach es X.env:=by rfl) (hpl:(backTo pos (starEach es X.env)).any (·.1)=false:=by rfl):PD X (.Call (.Name x p) (e ::es) [] pos) (aP g fs):=
 (zB hc.r hg hm hv ha hn hdb he hpl).imp fun σ H Q h=>yr h
noncomputable def Bw(K:PySem.W.Frag)(n:Nat)(g:List D→R D):Sp:=fun vs H Q _=>vs.length=n∧∃B ds d,(∀a∈B,∃o,H a=some o)∧aH K B H ds vs∧g ds= .ok d∧∀z H',aU H H'→Rep K B H' d z→Q z H'
theorem DQ{g:List D→R D}{k n:Nat}{f:Addr}{fd:FuncData}{ps:List Str}{x:Str}{p pos:Pos}{e:Expr}{es:List Expr}{fs:ax→R (List D)}
 (F:ig X.prog X.w X.K X.mg X.base rq k f fd ps (Bw X.K n g)) (hr:et k X.A) (hg:Gl X x) (hm:X.mg x=some (.ref f)) (hk:PySem.W.keepIn X.K (.ref f)=true) (hb:Binds X.K fd ps []) (ha:BY X (e ::es) fs)
 (hn:∀δ ds,fs δ= .ok ds→ds.length=n) (hdb:(x==("__debug__":Str))=false:=by decide) (he:starEach (e ::es) X.env=(false,eval e X.env) ::starEach es X.env:=by rfl) (hpl:(backTo pos (starEach es X.env)).any (·.1)=false:=by rfl) :
 PD X (.Call (.Name x p) (e ::es) [] pos) (aP g fs):=
 (tF F hr hg hm hk hb .nil uh ha hdb he hpl).imp fun σ H Q ⟨Z,B,δ,d,E,hf,q⟩=>by
   obtain⟨ds,h1,h2⟩:=R.aq hf
   refine⟨Z,B,δ,ds,E,h1,fun vs H1 s1 r1=>?_⟩
   show Bw X.K n g (vs++[]) H1 Q E0
   rw[List.append_nil]
   exact⟨by rw[←r1.length];exact hn δ ds h1,B,ds,d,(E.same s1).bs,r1,h2,fun z H' s2 r2=>q z H' (s1.trans s2) r2⟩
end
end L2
end
section
set_option maxRecDepth 100000
set_option maxHeartbeats 4000000
namespace L2
open PySem PySem.Spec PyProof.Rows
inductive Out where
 | nx (δ:ax) | rt (d:D)
noncomputable abbrev FS:=ax→R Out
structure Ev (Z B:List Addr) (H:Hp) (B':List Addr) (H':Hp):Prop where
 bq:dE B H B' H'
 zs:∀b o,H b=some o→b∈Z→H' b=some o∧b∈B'
theorem Ev.refl(Z B:List Addr)(H:Hp)(zb:∀a∈Z,a∈B):Ev Z B H B H:=⟨dE.refl B H,fun b o e z=>⟨e,zb b z⟩⟩
theorem Ev.trans{Z B B' B'':List Addr}{H H' H'':Hp}(a:Ev Z B H B' H')(b:Ev Z B' H' B'' H''):Ev Z B H B'' H'':=
 ⟨a.bq.trans b.bq,fun c o e z=>let⟨e1,_⟩:=a.zs c o e z;b.zs c o e1 z⟩
theorem Ev.same{Z B:List Addr}{H H':Hp}(zb:∀a∈Z,a∈B)(s:aU H H'):Ev Z B H B H':=⟨dE.same s,fun b o e z=>⟨s b o e,zb b z⟩⟩
noncomputable def yi(K:PySem.W.Frag)(Z B:List Addr)(H:Hp)(D:Ends):Out→Prop
 | .nx δ'=>∀σ' B' H',Ev Z B H B' H'→d_ K Z B' H' σ' δ'→D.nx σ' H'
 | .rt d=>∀v B' H',Ev Z B H B' H'→(∀a∈Z,a∈B')→Rep K B' H' d v→D.rt v H'
theorem yi.ev{K:PySem.W.Frag}{Z B B1:List Addr}{H H1:Hp}{D:Ends}{o:Out}(q:yi K Z B H D o)(ev:Ev Z B H B1 H1):yi K Z B1 H1 D o:=by
 cases o with
 | nx δ'=>exact fun σ' B' H' ev' E'=>q σ' B' H' (ev.trans ev') E'
 | rt d=>exact fun v B' H' ev' z r=>q v B' H' (ev.trans ev') z r
noncomputable def sD(K:PySem.W.Frag)(F:FS):TS:=fun D σ H=>∃Z B δ o,d_ K Z B H σ δ∧F δ= .ok o∧yi K Z B H D o
noncomputable abbrev Cy(X:Cx)(st:Stmt)(F:FS):Prop:=PS X st (sD X.K F)
noncomputable abbrev pk(X:Cx)(st:List Stmt)(F:FS):Prop:=ue X st (sD X.K F)
section
variable {X:Cx}
noncomputable def jz:FS:=fun δ=> .ok (.nx δ)
noncomputable def el(F G:FS):FS:=fun δ=>(F δ).bind fun o=>match o with | .nx δ'=>G δ' | .rt d=> .ok (.rt d)
theorem CC:pk X [] jz:=xQ.imp fun D σ H ⟨Z,B,δ,o,E,hf,q⟩=>by
 cases hf
 exact q σ B H (Ev.refl Z B H E.zb) E
theorem F5{K:PySem.W.Frag}{F G:FS}{D:Ends}{σ:St}{H:Hp}(h:sD K (el F G) D σ H):Hr (sD K F) (sD K G) D σ H:=by
 obtain⟨Z,B,δ,o,E,hf,q⟩:=h
 obtain⟨o1,h1,h2⟩:=R.aq hf
 refine⟨Z,B,δ,o1,E,h1,?_⟩
 cases o1 with
 | nx δ1=>
   intro σ1 B1 H1 ev E1
   refine⟨Z,B1,δ1,o,E1,h2,?_⟩
   cases o with
   | nx δ2=>exact fun σ' B' H' ev' E'=>q σ' B' H' (ev.trans ev') E'
   | rt d=>exact fun v B' H' ev' z r=>q v B' H' (ev.trans ev') z r
 | rt d=>
   cases h2
   exact q
theorem A5{st:Stmt}{rest:List Stmt}{F G:FS}(h1:Cy X st F)(h2:pk X rest G):pk X (st ::rest) (el F G):=(u7 h1 h2).imp fun D σ H h=>F5 h
theorem CZ{st:Stmt}{F:FS}(h1:Cy X st F):pk X [st] F:=yx h1
theorem d_.set{K:PySem.W.Frag}{Z B:List Addr}{H:Hp}{σ:St}{δ:ax}(E:d_ K Z B H σ δ){i:Nat}{d:D}{v:V}(hi:i < σ.length)(r:Rep K B H d v):d_ K Z B H (σ.set i (some v)) (δ.set i (.val d)) where
 len:=by rw[List.length_set,List.length_set];exact E.len
 bs:=E.bs
 zb:=E.zb
 val:=fun j d' e=>by
  by_cases h:i=j
  ·subst h
   rw[List.getElem?_set_self (by rw[E.len];exact hi)] at e
   cases e
   exact⟨v,List.getElem?_set_self hi,r⟩
  ·rw[List.getElem?_set_ne h] at e ⊢
   exact E.val j d' e
 bld:=fun j ds e=>by
  by_cases h:i=j
  ·subst h
   rw[List.getElem?_set_self (by rw[E.len];exact hi)] at e
   cases e
  ·rw[List.getElem?_set_ne h] at e ⊢
   exact E.bld j ds e
 dis:=fun j k a ds es e1 e2 e3 e4=>by
  by_cases h:i=j
  ·subst h
   rw[List.getElem?_set_self (by rw[E.len];exact hi)] at e1
   cases e1
  ·by_cases h':i=k
   ·subst h'
    rw[List.getElem?_set_self (by rw[E.len];exact hi)] at e2
    cases e2
   ·rw[List.getElem?_set_ne h] at e1 e3
    rw[List.getElem?_set_ne h'] at e2 e4
    exact E.dis j k a ds es e1 e2 e3 e4
theorem d_.setB{K:PySem.W.Frag}{Z B:List Addr}{H:Hp}{σ:St}{δ:ax}(E:d_ K Z B H σ δ){i:Nat}{ds:List D}{a:Addr}{xs:List V}(hi:i < σ.length)(hB:a∈B)(hZ:a ∉ Z)(hH:H a=some (.lst xs))(r:aH K B H ds xs)
 (new:∀j es,j≠i→δ[j]? =some (.bld es)→σ[j]?≠some (some (.ref a))):d_ K Z B H (σ.set i (some (.ref a))) (δ.set i (.bld ds)) where
 len:=by rw[List.length_set,List.length_set];exact E.len
 bs:=E.bs
 zb:=E.zb
 val:=fun j d' e=>by
  by_cases h:i=j
  ·subst h
   rw[List.getElem?_set_self (by rw[E.len];exact hi)] at e
   cases e
  ·rw[List.getElem?_set_ne h] at e ⊢
   exact E.val j d' e
 bld:=fun j es e=>by
  by_cases h:i=j
  ·subst h
   rw[List.getElem?_set_self (by rw[E.len];exact hi)] at e
   cases e
   exact⟨a,xs,List.getElem?_set_self hi,hB,hZ,hH,r⟩
  ·rw[List.getElem?_set_ne h] at e ⊢
   exact E.bld j es e
 dis:=fun j k b ds1 es1 e1 e2 e3 e4=>by
  by_cases h:i=j
  ·subst h
   by_cases h':i=k
   ·exact h'
   ·rw[List.getElem?_set_self hi] at e3
    cases e3
    rw[List.getElem?_set_ne h'] at e2 e4
    exact absurd e4 (new k es1 (Ne.symm h') e2)
  ·by_cases h':i=k
   ·subst h'
    rw[List.getElem?_set_self hi] at e4
    cases e4
    rw[List.getElem?_set_ne h] at e1 e3
    exact absurd e3 (new j ds1 (Ne.symm h) e1)
   ·rw[List.getElem?_set_ne h] at e1 e3
    rw[List.getElem?_set_ne h'] at e2 e4
    exact E.dis j k b ds1 es1 e1 e2 e3 e4
noncomputable def ib(i:Nat)(f:FD):FS:=fun δ=>(f δ).bind fun d=>R.cc (decide (i < δ.length)) (.ok (.nx (δ.set i (.val d))))
theorem Bh{K:PySem.W.Frag}{i:Nat}{f:FD}{D:Ends}{σ:St}{H:Hp}(h:sD K (ib i f) D σ H):zG (tD K f) (qo i) D σ H:=by
 obtain⟨Z,B,δ,o,E,hf,q⟩:=h
 obtain⟨d,h1,h2⟩:=R.aq hf
 obtain⟨hi,h3⟩:=R.br h2
 cases h3
 refine⟨Z,B,δ,d,E,h1,fun v H1 s1 r1=>?_⟩
 exact q _ B H1 (Ev.same E.zb s1) ((E.same s1).set (by rw[←E.len];exact of_decide_eq_true hi) r1)
theorem DB{i:Nat}{x:Str}{e:Expr}{f:FD}{pos pos':Pos}(hN:X.N.Nodup)(hi:X.N[i]? =some x)(hx:Loc X.env.scope x)(he:PD X e f)(hs:swapsWith e (some (.Name x pos')) pos.line X.env=pure false:=by rfl)(hf:X.fn x=true∨X.env.scope.names.lookup x=some .local:=by first | exact .inl rfl | exact .inr rfl | assumption) :
 Cy X (.Assign [.Name x pos'] e pos) (ib i f):=(wy hN hi hx he hs hf).imp fun D σ H h=>Bh h
noncomputable def nc(i:Nat)(f:ax→R (List D)):FS:=fun δ=>(f δ).bind fun ds=>R.cc (decide (i < δ.length)) (.ok (.nx (δ.set i (.bld ds))))
theorem Gj{K:PySem.W.Frag}{i:Nat}{f:ax→R (List D)}{D:Ends}{σ:St}{H:Hp}(h:sD K (nc i f) D σ H):zG (tN K f) (qo i) D σ H:=by
 obtain⟨Z,B,δ,o,E,hf,q⟩:=h
 obtain⟨ds,h1,h2⟩:=R.aq hf
 obtain⟨hi,h3⟩:=R.br h2
 cases h3
 refine⟨Z,B,δ,ds,E,h1,fun a xs H1 s1 n e r=>?_⟩
 have E1:=E.same s1
 have aB:a ∉ B:=fun ha=>by obtain⟨o,ho⟩:=E.bs a ha;rw [n] at ho;cases ho
 have nZ:a ∉ Z:=fun ha=>aB (E.zb a ha)
 have p0:dE B H (a ::B) H1:=fun b o e' nb=>⟨s1 b o e',fun hb=>by
  rcases List.mem_cons.mp hb with z | z
  ·subst z;rw [n] at e';cases e'
  ·exact nb z⟩
 have E2:d_ K Z (a ::B) H1 σ δ:={
  len:=E.len
  bs:=fun b hb=>by
   rcases List.mem_cons.mp hb with z | z
   ·subst z;exact⟨_,e⟩
   ·exact E1.bs b z
  zb:=fun b hb=>List.mem_cons_of_mem _ (E.zb b hb)
  val:=fun j d e=>let⟨v,q1,q2⟩:=E.val j d e;⟨v,q1,q2.bq p0⟩
  bld:=fun j es e=>let⟨b,ys,q1,q2,q3,q4,q5⟩:=E.bld j es e;⟨b,ys,q1,List.mem_cons_of_mem _ q2,q3,s1 b _ q4,q5.bq p0⟩
  dis:=E.dis}
 refine q _ (a ::B) H1 ⟨p0,fun b o e' hb=>⟨s1 b o e',List.mem_cons_of_mem _ (E.zb b hb)⟩⟩ (E2.setB (by rw[←E.len];exact of_decide_eq_true hi) List.mem_cons_self nZ e r fun j es hj ej hσ=>?_)
 obtain⟨b,ys,q1,_,_,q4,_⟩:=E.bld j es ej
 rw[hσ] at q1
 cases q1
 rw[n] at q4;cases q4
theorem CG{i:Nat}{x:Str}{e:Expr}{f:ax→R (List D)}{pos pos':Pos}(hN:X.N.Nodup)(hi:X.N[i]? =some x)(hx:Loc X.env.scope x)(he:PN X e f)(hs:swapsWith e (some (.Name x pos')) pos.line X.env=pure false:=by rfl)(hf:X.fn x=true∨X.env.scope.names.lookup x=some .local:=by first | exact .inl rfl | exact .inr rfl | assumption) :
 Cy X (.Assign [.Name x pos'] e pos) (nc i f):=(wy hN hi hx he hs hf).imp fun D σ H h=>Gj h
theorem d_.grow{K:PySem.W.Frag}{Z B:List Addr}{H:Hp}{σ:St}{δ:ax}(E:d_ K Z B H σ δ){i:Nat}{ds es:List D}{a:Addr}{xs ys:List V}(hd:δ[i]? =some (.bld ds))(hσ:σ[i]? =some (some (.ref a)))(hB:a∈B)(hH:H a=some (.lst xs))(r:aH K B H es ys) :
 d_ K Z B (upd H a (.lst ys)) σ (δ.set i (.bld es))∧dE B H B (upd H a (.lst ys)):=by
 have p:dE B H B (upd H a (.lst ys)):=fun b o e nb=>⟨by rw[bf (fun(z:b=a)=>nb (by rw[z];exact hB))];exact e,nb⟩
 have hi:i < δ.length:=(List.getElem?_eq_some_iff.mp hd).1
 refine⟨{
  len:=by rw[List.length_set];exact E.len
  bs:=fun b hb=>by
   by_cases z:b=a
   ·subst z;exact⟨_,bc⟩
   ·rw[bf z];exact E.bs b hb
  zb:=E.zb
  val:=fun j d e=>by
   by_cases h:i=j
   ·subst h;rw [List.getElem?_set_self hi] at e;cases e
   ·rw[List.getElem?_set_ne h] at e
    obtain⟨v,q1,q2⟩:=E.val j d e
    exact⟨v,q1,q2.bq p⟩
  bld:=fun j fs e=>by
   by_cases h:i=j
   ·subst h;rw [List.getElem?_set_self hi] at e;cases e
    obtain⟨b,zs,q1,q2,q3,_,_⟩:=E.bld i ds hd
    rw[hσ] at q1;cases q1
    exact⟨a,ys,hσ,hB,q3,bc,r.bq p⟩
   ·rw[List.getElem?_set_ne h] at e
    obtain⟨b,zs,q1,q2,q3,q4,q5⟩:=E.bld j fs e
    have ne:b≠a:=fun z=>by subst z;exact h (E.dis i j b ds fs hd e hσ q1)
    exact⟨b,zs,q1,q2,q3,by rw[bf ne];exact q4,q5.bq p⟩
  dis:=fun j k b ds1 es1 e1 e2 e3 e4=>by
   have f1:∃fs,δ[j]? =some (.bld fs):=by
    by_cases h:i=j
    ·subst h;exact⟨ds,hd⟩
    ·rw[List.getElem?_set_ne h] at e1;exact⟨_,e1⟩
   have f2:∃fs,δ[k]? =some (.bld fs):=by
    by_cases h:i=k
    ·subst h;exact⟨ds,hd⟩
    ·rw[List.getElem?_set_ne h] at e2;exact⟨_,e2⟩
   obtain⟨_,f1⟩:=f1
   obtain⟨_,f2⟩:=f2
   exact E.dis j k b _ _ f1 f2 e3 e4},p⟩
theorem Ev.grow{Z B:List Addr}{H:Hp}{a:Addr}{o:HO}(zb:∀a∈Z,a∈B)(hZ:a ∉ Z)(p:dE B H B (upd H a o)):Ev Z B H B (upd H a o):=
 ⟨p,fun b u e hb=>⟨by rw[bf (fun(z:b=a)=>hZ (by rw[←z];exact hb))];exact e,zb b hb⟩⟩
noncomputable def ji(δ:ax)(i:Nat):R (List D):=match δ[i]? with | some (.bld ds)=> .ok ds | _=> .no
theorem zZ{δ:ax}{i:Nat}{ds:List D}(h:ji δ i= .ok ds):δ[i]? =some (.bld ds):=by
 unfold ji at h
 split at h
 ·rename_i q;cases h;exact q
 ·cases h
noncomputable def n0(i:Nat)(f:FD):FS:=fun δ=>(f δ).bind fun d=>(ji δ i).bind fun ds=>R.cc (decide (ds.length < sizeLine)) (.ok (.nx (δ.set i (.bld (ds++[d])))))
theorem Dx{i:Nat}{x:Str}{e:Expr}{f:FD}{npos apos cpos pos:Pos}(hN:X.N[i]? =some x)(hv:Ei X.env.scope x)(he:PD X e f)
 (hd:(x==("__debug__":Str))=false:=by decide) (hcd:(x==("__classdict__":Str))=false:=by decide)
 (hs:starEach [e] X.env=(false,eval e X.env) ::starEach [] X.env:=by rfl) (hline:(apos.endLine==cpos.line)=true:=by rfl)
 (hfew:((backTo cpos (starEach [e] X.env)).all (fun x=>!x.1) && (backToKw cpos (keywordEach [] X.env)).all (fun x=>x.1.isSome)
   && decide (([e]:List Expr).length+([]:List Keyword).length+(if([]:List Keyword).isEmpty then 0 else 1) < 30))=true:=by rfl)
 (hsw:swapsWith (.Call (.Attribute (.Name x npos) "append" apos) [e] [] cpos) none pos.line X.env=pure false:=by rfl)
 (hbase:attributeBase (.Name x npos) "append" X.env (eval (.Name x npos) X.env)=eval (.Name x npos) X.env:=by rfl) :
 Cy X (.Expr (.Call (.Attribute (.Name x npos) "append" apos) [e] [] cpos) pos) (n0 i f):=by
 refine(yH (B0 (X:=X) PySem.F.plainAttrs_list PySem.F.slot_list_append PySem.F.type_list_append oC (tw hN hv hd hcd) (ic he j2 hs) hbase hfew hline hs) hsw).imp fun D σ H ⟨Z,B,δ,o,E,hf,q⟩=>?_
 obtain⟨d,h1,h2⟩:=R.aq hf
 obtain⟨ds,h3,h4⟩:=R.aq h2
 obtain⟨hl,h5⟩:=R.br h4
 cases h5
 have hb:=zZ h3
 obtain⟨a,xs,q1,q2,q3,q4,q5⟩:=E.bld i ds hb
 refine⟨.ref a,q1, .inl ⟨rfl,xs,nV.of q4⟩,⟨Z,B,δ,d,E,h1,fun v H1 s1 r1=>?_⟩⟩
 have E1:=E.same s1
 refine⟨a,xs,v,rfl,rfl,s1 a _ q4,by rw[←q5.length];exact of_decide_eq_true hl,?_⟩
 obtain⟨E2,p2⟩:=E1.grow (es:=ds++[d]) (ys:=xs++[v]) hb q1 q2 (s1 a _ q4) ((q5.same s1).append (aH.cons r1 aH.nil))
 exact q σ B _ ((Ev.same E.zb s1).trans (Ev.grow E.zb q3 p2)) E2
noncomputable def uR(i:Nat)(f:ax→R (List D)):FS:=fun δ=>(f δ).bind fun es=>(ji δ i).bind fun ds=>R.cc (decide (ds.length+es.length≤sizeLine)) (.ok (.nx (δ.set i (.bld (ds++es)))))
noncomputable def iS(i:Nat)(δ:ax):ax:=match δ[i]? with | some (.bld ds)=>δ.set i (.val (.lst ds)) | _=>δ
theorem d_.iS{K:PySem.W.Frag}{Z B:List Addr}{H:Hp}{σ:St}{δ:ax}(E:d_ K Z B H σ δ)(i:Nat):∃B',Ev Z B H B' H∧d_ K Z B' H σ (iS i δ):=by
 unfold L2.iS
 cases hd:δ[i]? with
 | none=>exact⟨B,Ev.refl Z B H E.zb,E⟩
 | some x=>
   cases x with
   | un=>exact⟨B,Ev.refl Z B H E.zb,E⟩
   | val d=>exact⟨B,Ev.refl Z B H E.zb,E⟩
   | bld ds=>
     obtain⟨a,xs,q1,q2,q3,q4,q5⟩:=E.bld i ds hd
     have hi:i < δ.length:=(List.getElem?_eq_some_iff.mp hd).1
     have p:dE B H (B.filter fun b=>decide (b≠a)) H:=fun b o e nb=>⟨e,fun hb=>nb (List.mem_filter.mp hb).1⟩
     have zb:∀b∈Z,b∈B.filter fun b=>decide (b≠a):=fun b hb=>List.mem_filter.mpr ⟨E.zb b hb,decide_eq_true fun z=>q3 (z▸hb)⟩
     refine⟨B.filter fun b=>decide (b≠a),⟨p,fun b o e hb=>⟨e,zb b hb⟩⟩,{
      len:=by rw[List.length_set];exact E.len
      bs:=fun b hb=>E.bs b (List.mem_filter.mp hb).1
      zb:=zb
      val:=fun j d e=>by
       by_cases h:i=j
       ·subst h;rw [List.getElem?_set_self hi] at e;cases e
        refine⟨.ref a,q1,?_⟩
        unfold Rep
        exact⟨a,xs,rfl, .inl ⟨fun hb=>by simpa using(List.mem_filter.mp hb).2, .inl q4⟩,q5.bq p⟩
       ·rw[List.getElem?_set_ne h] at e
        obtain⟨v,z1,z2⟩:=E.val j d e
        exact⟨v,z1,z2.bq p⟩
      bld:=fun j fs e=>by
       by_cases h:i=j
       ·subst h;rw [List.getElem?_set_self hi] at e;cases e
       ·rw[List.getElem?_set_ne h] at e
        obtain⟨b,zs,z1,z2,z3,z4,z5⟩:=E.bld j fs e
        exact⟨b,zs,z1,List.mem_filter.mpr ⟨z2,decide_eq_true fun z=>by subst z;exact h (E.dis i j b ds fs hd e q1 z1)⟩,z3,z4,z5.bq p⟩
      dis:=fun j k b ds1 es1 e1 e2 e3 e4=>by
       by_cases h:i=j
       ·subst h;rw [List.getElem?_set_self hi] at e1;cases e1
       ·by_cases h':i=k
        ·subst h';rw [List.getElem?_set_self hi] at e2;cases e2
        ·rw[List.getElem?_set_ne h] at e1
         rw[List.getElem?_set_ne h'] at e2
         exact E.dis j k b ds1 es1 e1 e2 e3 e4}⟩
noncomputable def pA(i:Nat)(F:FS):FS:=fun δ=>F (iS i δ)
theorem Gw{K:PySem.W.Frag}{i:Nat}{F:FS}{D:Ends}{σ:St}{H:Hp}(h:sD K (pA i F) D σ H):sD K F D σ H:=by
 obtain⟨Z,B,δ,o,E,hf,q⟩:=h
 obtain⟨B1,ev,E1⟩:=E.iS i
 refine⟨Z,B1,L2.iS i δ,o,E1,hf,?_⟩
 cases o with
 | nx δ'=>exact fun σ' B' H' ev' E'=>q σ' B' H' (ev.trans ev') E'
 | rt d=>exact fun v B' H' ev' z r=>q v B' H' (ev.trans ev') z r
theorem CY(i:Nat){sts:List Stmt}{F:FS}(h:pk X sts F):pk X sts (pA i F):=h.imp fun D σ H h=>Gw h
noncomputable def er(f:FD):FS:=fun δ=>(f δ).bind fun d=> .ok (.rt d)
theorem DY{e:Expr}{f:FD}{pos:Pos}(he:PD X e f):Cy X (.Return (some e) pos) (er f):=(Ci he).imp fun D σ H ⟨Z,B,δ,o,E,hf,q⟩=>by
 obtain⟨d,h1,h2⟩:=R.aq hf
 cases h2
 exact⟨Z,B,δ,d,E,h1,fun v H1 s1 r1=>q v B H1 (Ev.same E.zb s1) E.zb r1⟩
noncomputable def pj(c:ax→R Bool)(F G:FS):FS:=fun δ=>(c δ).bind fun b=>if b then F δ else G δ
theorem EW{c:Expr}{a b:List Stmt}{fc:ax→R Bool}{F G:FS}{pos:Pos}(hc:PB X c fc)(ha:pk X a F)(hb:pk X b G):Cy X (.If c a b pos) (pj fc F G):=(El hc ha hb).imp fun D σ H ⟨Z,B,δ,o,E,hf,q⟩=>by
 obtain⟨k,h1,h2⟩:=R.aq hf
 refine⟨Z,B,δ,k,E,h1,fun H1 s1=>?_⟩
 have q':=q.ev (Ev.same E.zb s1)
 cases k with
 | true=>rw [if_pos rfl] at h2;exact BV ⟨Z,B,δ,o,E.same s1,h2,q'⟩
 | false=>rw [if_neg (by decide)] at h2;exact Bl ⟨Z,B,δ,o,E.same s1,h2,q'⟩
noncomputable abbrev FT:=D→ax→R ax
noncomputable def gD(K:PySem.W.Frag)(t:FT):TG:=fun v σ H Q=>∃Z B δ d δ',d_ K Z B H σ δ∧Rep K B H d v∧t d δ= .ok δ'∧∀σ' H',aU H H'→d_ K Z B H' σ' δ'→σ'.length=σ.length→Q σ' H'
noncomputable abbrev Fc(X:Cx)(tg:Expr)(t:FT):Prop:=PG X tg (gD X.K t)
noncomputable def aY(i:Nat):FT:=fun d δ=>R.cc (decide (i < δ.length)) (.ok (δ.set i (.val d)))
theorem A0{i:Nat}{x:Str}{pos:Pos}(hN:X.N.Nodup)(hi:X.N[i]? =some x)(hx:Loc X.env.scope x)(hf:X.fn x=true∨X.env.scope.names.lookup x=some .local:=by first | exact .inl rfl | exact .inr rfl | assumption):Fc X (.Name x pos) (aY i):=
 (yK hN hi hx hf).imp fun v σ H Q ⟨Z,B,δ,d,δ',E,r,ht,q⟩=>by
   obtain⟨hi,h⟩:=R.br ht
   cases h
   exact q _ H (aU.refl H) (E.set (by rw[←E.len];exact of_decide_eq_true hi) r) (List.length_set ..)
noncomputable abbrev Ac:=List D→ax→R ax
noncomputable def Lr(K:PySem.W.Frag)(t:Ac):BI:=fun vs σ H Q=>∃Z B δ ds δ',d_ K Z B H σ δ∧aH K B H ds vs∧t ds δ= .ok δ'∧∀σ' H',aU H H'→d_ K Z B H' σ' δ'→σ'.length=σ.length→Q σ' H'
noncomputable abbrev BF(X:Cx)(ts:List Expr)(t:Ac):Prop:=Ef X ts (Lr X.K t)
theorem Ef.imp{X:Cx}{e:List Expr}{t t':BI}(h:Ef X e t)(w:∀v σ H Q,t' v σ H Q→t v σ H Q):Ef X e t':=fun pins s σ H v u Q I r hq=>h pins s σ H v u Q I r (w v σ H Q hq)
noncomputable def eZ:Ac:=fun ds δ=>match ds with | []=> .ok δ | _=> .no
noncomputable def b3(t:FT)(u:Ac):Ac:=fun ds δ=>match ds with | d ::r=>(t d δ).bind fun δ'=>u r δ' | []=> .no
theorem An:BF X [] eZ:=xR.imp fun vs σ H Q ⟨Z,B,δ,ds,δ',E,r,ht,q⟩=>by
 cases ds with
 | nil=>unfold aH at r;cases ht;exact⟨r,q σ H (aU.refl H) E rfl⟩
 | cons=>cases ht
theorem zL{e:Expr}{es:List Expr}{t:FT}{u:Ac}(h1:Fc X e t)(h2:BF X es u)(hs:(assignEach (e ::es) X.env).map (·.2)=assign e X.env ::(assignEach es X.env).map (·.2):=by rfl):BF X (e ::es) (b3 t u):=
 (vC h1 h2 hs).imp fun vs σ H Q ⟨Z,B,δ,ds,δ',E,r,ht,q⟩=>by
   cases ds with
   | nil=>cases ht
   | cons d ds=>
     obtain⟨x,xs,rfl,r1,r2⟩:=r.cC
     obtain⟨δ1,h1,h2⟩:=R.aq ht
     exact⟨x,xs,rfl,Z,B,δ,d,δ1,E,r1,h1,fun σ1 H1 s1 E1 l1=>⟨Z,B,δ1,ds,δ',E1,r2.same s1,h2,fun σ2 H2 s2 E2 l2=>q σ2 H2 (s1.trans s2) E2 (l2.trans l1)⟩⟩
noncomputable def eY(n:Nat)(t:Ac):FT:=fun d δ=>match d with | .tup ds=>R.cc (decide (ds.length=n)) (t ds δ) | _=> .no
theorem CH{es:List Expr}{k:Nat}{t:Ac}{n:Nat}{pos:Pos}(hc:X.calm=true)(h:BF X es t)(hn:(assignEach es X.env).length=n:=by rfl)(hst:(assignEach es X.env).findIdx? (·.1)=none:=by rfl):Fc X (.Tuple es k pos) (eY n t):=
 (Ab hc h hn hst).imp fun v σ H Q ⟨Z,B,δ,d,δ',E,r,ht,q⟩=>by
   cases d with
   | tup ds=>
     unfold Rep at r
     obtain⟨a,xs,rfl,l,r⟩:=r
     obtain⟨hl,h⟩:=R.br ht
     exact⟨a,xs,rfl,l.sq,by rw[←r.length];exact of_decide_eq_true hl,Z,B,δ,ds,δ',E,r,h,q⟩
   | _=>cases ht
noncomputable def uV(f:FD)(t:FT):FS:=fun δ=>(f δ).bind fun d=>(t d δ).bind fun δ'=> .ok (.nx δ')
noncomputable def Ad(K:PySem.W.Frag)(B:List Addr)(H:Hp)(J:It)(ds:List D):Prop:=∀B' H',dE B H B' H'→(∀(i:Nat) (d:D),ds[i]? =some d→J.go i H'∧∀x H'',J.yld i H' x H''→(∀a∈B',∃o,H' a=some o)→aU H' H''∧Rep K B' H'' d x)∧J.stop ds.length H'
noncomputable def iD(K:PySem.W.Frag)(f:ax→R (List D)):TI:=fun σ H R=>∃Z B δ ds,d_ K Z B H σ δ∧f δ= .ok ds∧∀J H1,aU H H1→Ad K B H1 J ds→R J H1
noncomputable abbrev Gy(X:Cx)(tg e:Expr)(f:ax→R (List D)):Prop:=PI X tg e (iD X.K f)
noncomputable def fQ(f:FD):ax→R (List D):=fun δ=>(f δ).bind fun d=>match d with | .lst ds=> .ok ds | .tup ds=> .ok ds | _=> .no
theorem C4{tg e:Expr}{f:FD}(h:PD X e f):Gy X tg e (fQ f):=by
 intro pins s σ H RR I ⟨Z,B,δ,ds,E,hf,q⟩
 obtain⟨d,h1,h2⟩:=R.aq hf
 refine dN (h pins s σ H (fun v H1=>aU H H1∧Rep X.K B H1 d v) I ⟨Z,B,δ,d,E,h1,fun v H1 s1 r1=>⟨s1,r1⟩⟩) fun v s1 ⟨x,H1,I1,r1,ss,rr⟩=>?_
 cases d with
 | lst es=>
   cases h2
   unfold Rep at rr
   obtain⟨a,xs,rfl,l,rr⟩:=rr
   cases r1
   obtain⟨its,rv,p,hz⟩:=I1.list l.sq
   refine wpAny_pyIter_list p.isList ?_
   refine⟨s1.heap.objs.size,[s1.heap.objs.size],_,_,H1,rfl,I1.kept (t':=s1.toks) fun b o e=>Heap.get?_push_of_some _ e,sd a _,⟨_,Heap.get?_push_size _ rfl,rfl,rfl⟩,fun b hb=>?_,q _ H1 ss fun B' H' pr=>?_⟩
   ·have e:b=s1.heap.objs.size:=by simpa using hb
    subst e
    exact I1.rA (Nat.le_refl _) (I1.hok.fresh (Nat.le_refl _))
   ·have l':qW X.K B' H' a xs:=l.bq pr
    have rr':=rr.bq pr
    refine⟨fun i d hd=>?_,⟨xs,l'.sq,by rw[rr.length];exact Nat.le_refl _⟩⟩
    obtain⟨x,hx,rx⟩:=rr'.get hd
    exact⟨⟨xs,x,l'.sq,hx⟩,fun y H'' ⟨e1,e2⟩ _=>by
     subst e1
     have:=e2 xs l'.sq
     rw[hx] at this
     cases this
     exact⟨aU.refl _,rx⟩⟩
 | tup es=>
   cases h2
   unfold Rep at rr
   obtain⟨a,xs,rfl,l,rr⟩:=rr
   cases r1
   obtain⟨its,rv,p,hz⟩:=I1.tuple l.sq
   refine wpAny_pyIter_tuple (show s1.heap.IsTuple a its.toArray from p) ?_
   refine⟨s1.heap.objs.size,[s1.heap.objs.size],_,_,H1,rfl,I1.kept (t':=s1.toks) fun b o e=>Heap.get?_push_of_some _ e,wA a _,⟨_,Heap.get?_push_size _ rfl,rfl,rfl⟩,fun b hb=>?_,q _ H1 ss fun B' H' pr=>?_⟩
   ·have e:b=s1.heap.objs.size:=by simpa using hb
    subst e
    exact I1.rA (Nat.le_refl _) (I1.hok.fresh (Nat.le_refl _))
   ·have l':sL X.K B' H' a xs:=l.elim (fun z=> .inl ⟨(pr.rd z.2 z.1).2,(pr.rd z.2 z.1).1⟩) .inr
    have rr':=rr.bq pr
    refine⟨fun i d hd=>?_,⟨xs,l'.sq,by rw[rr.length];exact Nat.le_refl _⟩⟩
    obtain⟨x,hx,rx⟩:=rr'.get hd
    exact⟨⟨xs,x,l'.sq,hx⟩,fun y H'' ⟨e1,e2⟩ _=>by
     subst e1
     have:=e2 xs l'.sq
     rw[hx] at this
     cases this
     exact⟨aU.refl _,rx⟩⟩
 | _=>cases h2
noncomputable def cH(lo:Int)(n:Nat):List D:=(List.range n).map fun(i:Nat)=>D.int (lo+i)
theorem Ba{K:PySem.W.Frag}{B:List Addr}{H:Hp}(lo:Int)(n:Nat):Ad K B H (HD lo n) (cH lo n):=fun B' H' _=>by
 refine⟨fun i d hd=>?_,?_⟩
 ·unfold cH at hd
  rw[List.getElem?_map] at hd
  cases e:(List.range n)[i]? with
  | none=>rw [e] at hd;cases hd
  | some j=>
    rw[e] at hd
    cases hd
    obtain⟨hi,ej⟩:=List.getElem?_eq_some_iff.mp e
    rw[List.getElem_range] at ej
    subst ej
    rw[List.length_range] at hi
    exact⟨hi,fun x H'' ⟨e1,e2⟩ _=>by subst e1 e2;exact⟨aU.refl _,by unfold Rep;rfl⟩⟩
 ·show n≤(cH lo n).length
  unfold cH
  rw[List.length_map,List.length_range]
  exact Nat.le_refl _
noncomputable def ee(f:FD):ax→R (List D):=fun δ=>(f δ).bind fun d=>match d with | .int j=>R.cc (decide (-(2 ^ 62)≤j∧j < 2 ^ 62)) (.ok (cH 0 j.toNat)) | _=> .no
theorem vZ{tg a:Expr}{f:FD}{p pos:Pos}(h:PD X a f)(hg:Gl X "range")(hm:X.mg "range"=none)(hs:starEach [a] X.env=[(false,eval a X.env)]:=by rfl):Gy X tg (.Call (.Name "range" p) [a] [] pos) (ee f):=
 (rK hg hm (ic h j2 hs) hs).imp fun σ H RR ⟨Z,B,δ,ds,E,hf,q⟩=>by
   obtain⟨d,h1,h2⟩:=R.aq hf
   cases d with
   | int j=>
     obtain⟨hb,h3⟩:=R.br h2
     cases h3
     have hb:=of_decide_eq_true hb
     refine⟨Z,B,δ, .int j,E,h1,fun v H1 s1 r1=>⟨j,?_,hb.1,hb.2,q _ H1 s1 (Ba 0 _)⟩⟩
     unfold Rep at r1
     rw[r1]
   | _=>cases h2
noncomputable def JQ(f g:FD):ax→R (List D):=fun δ=>(f δ).bind fun d=>(g δ).bind fun e=>match d,e with
 | .int i, .int j=>R.cc (decide (-(2 ^ 62)≤i∧i < 2 ^ 62∧ -(2 ^ 62)≤j∧j < 2 ^ 62)) (.ok (cH i (j - i).toNat)) | _,_=> .no
noncomputable def l6(t:FT)(body:FS):List D→FS
 | [],δ=> .ok (.nx δ)
 | d ::ds,δ=>(t d δ).bind fun δ1=>(body δ1).bind fun o=>match o with | .nx δ2=>l6 t body ds δ2 | .rt r=> .ok (.rt r)
noncomputable def o9(it:ax→R (List D))(t:FT)(body:FS):FS:=fun δ=>(it δ).bind fun ds=>l6 t body ds δ
theorem D3{tg iter:Expr}{body:List Stmt}{it:ax→R (List D)}{t:FT}{F:FS}{pos:Pos}(hp:PassesOwn (model X.prog X.w) X.A X.env X.xe)(hc:X.calm=true)(hi:Gy X tg iter it)(hg:Fc X tg t)(hb:pk X body F)
 (hs:∀x,foldedSetIterable iter X.env x=pure x:=by intro _;rfl):Cy X (.For tg iter body [] pos) (o9 it t F):=(AG hp hc hi hg hb hs).imp fun D σ H ⟨Z,B,δ,o,E,hf,q⟩=>by
 obtain⟨ds,h1,h2⟩:=R.aq hf
 refine⟨Z,B,δ,ds,E,h1,fun J H1 s1 ir=>?_⟩
 refine⟨fun i m σ' H'=>m=ds.length - i∧i≤ds.length∧∃B' δ',Ev Z B H1 B' H'∧d_ X.K Z B' H' σ' δ'∧l6 t F (ds.drop i) δ'= .ok o,⟨ds.length,rfl,Nat.zero_le _,B,δ,Ev.refl Z B H1 E.zb,E.same s1,by simpa using h2⟩,?_⟩
 rintro i m σ' H' ⟨rfl,hi,B',δ',ev,E',hl⟩
 obtain⟨go,stop⟩:=ir B' H' ev.bq
 by_cases hlt:i < ds.length
 ·have hd:ds[i]? =some ds[i]:=List.getElem?_eq_getElem hlt
  have hdrop:ds.drop i=ds[i] ::ds.drop (i+1):=List.drop_eq_getElem_cons hlt
  rw[hdrop] at hl
  obtain⟨δ1,h3,h4⟩:=R.aq hl
  obtain⟨o1,h5,h6⟩:=R.aq h4
  obtain⟨g1,g2⟩:=go i _ hd
  refine .inr ⟨g1,fun σ2 H2=>∃B2 δ2,Ev Z B H1 B2 H2∧d_ X.K Z B2 H2 σ2 δ2∧l6 t F (ds.drop (i+1)) δ2= .ok o,fun σ2 H2 n=>⟨ds.length - (i+1),by omega,rfl,hlt,n⟩,fun x H'' y=>?_⟩
  obtain⟨ss,rr⟩:=g2 x H'' y E'.bs
  refine⟨Z,B',δ',ds[i],δ1,E'.same ss,rr,h3,fun σ2 H2 s2 E2 l2=>⟨Z,B',δ1,o1,E2,h5,?_⟩⟩
  have ev2:Ev Z B H1 B' H2:=ev.trans (Ev.same E'.zb (ss.trans s2))
  cases o1 with
  | nx δ2=>exact fun σ3 B3 H3 ev3 E3=>⟨B3,δ2,ev2.trans ev3,E3,h6⟩
  | rt d=>
    cases h6
    exact fun v B3 H3 ev3 z r=>q v B3 H3 ((Ev.same E.zb s1).trans (ev2.trans ev3)) z r
 ·have e:i=ds.length:=by omega
  subst e
  rw[List.drop_length] at hl
  cases hl
  exact .inl ⟨stop,q σ' B' H' ((Ev.same E.zb s1).trans ev) E'⟩
noncomputable def A4(c:ax→R Bool)(body:FS):Nat→FS
 | 0,_=> .no
 | n+1,δ=>(c δ).bind fun b=>if b then(body δ).bind fun o=>match o with | .nx δ2=>A4 c body n δ2 | .rt r=> .ok (.rt r) else .ok (.nx δ)
noncomputable def Jf(n:Nat)(c:ax→R Bool)(body:FS):FS:=fun δ=>A4 c body n δ
noncomputable def qm(δ:ax)(i:Nat):Sl:=match δ[i]? with | some (.val d)=> .val d | _=> .un
noncomputable def qJ(own:List Str)(kp:List Nat)(δ:ax):ax:=List.replicate own.length .un++kp.map (qm δ)
noncomputable def nq(t:FT)(c:ax→R Bool)(f:FD)(δ:ax):List D→R (List D)
 | []=> .ok []
 | d ::ds=>(t d δ).bind fun δ1=>(c δ1).bind fun b=>if b then(f δ1).bind fun y=>(nq t c f δ ds).bind fun ys=> .ok (y ::ys) else nq t c f δ ds
noncomputable def gB(it:ax→R (List D))(t:FT)(c:ax→R Bool)(f:FD)(own:List Str)(kp:List Nat):ax→R (List D):=fun δ=>(it δ).bind fun ds=>R.cc (decide (ds.length≤sizeLine)) (nq t c f (qJ own kp δ) ds)
theorem EV{K:PySem.W.Frag}{Z B B':List Addr}{H H':Hp}{σ:St}{δ:ax}{own:List Str}{kp:List Nat}(E:d_ K Z B H σ δ)(p:dE B H B' H')(hB:∀a∈B',∃o,H' a=some o):d_ K [] B' H' (dz own kp σ) (qJ own kp δ) where
 len:=by unfold dz qJ;simp
 bs:=hB
 zb:=fun a ha=>by cases ha
 val:=fun i d e=>by
  unfold qJ at e
  unfold dz
  by_cases hi:i < own.length
  ·rw[List.getElem?_append_left (by simpa using hi),List.getElem?_replicate] at e
   split at e <;> cases e
  ·rw[List.getElem?_append_right (by simpa using hi),List.length_replicate,List.getElem?_map] at e ⊢
   cases q:kp[i - own.length]? with
   | none=>rw [q] at e;cases e
   | some j=>
     rw[q] at e
     have e:qm δ j= .val d:=Option.some.inj e
     unfold qm at e
     split at e
     ·rename_i d' ed
      cases e
      obtain⟨v,h1,h2⟩:=E.val j d ed
      exact⟨v,by simp [h1],h2.bq p⟩
     ·cases e
 bld:=fun i ds e=>by
  unfold qJ at e
  by_cases hi:i < own.length
  ·rw[List.getElem?_append_left (by simpa using hi),List.getElem?_replicate] at e
   split at e <;> cases e
  ·rw[List.getElem?_append_right (by simpa using hi),List.length_replicate,List.getElem?_map] at e
   cases q:kp[i - own.length]? with
   | none=>rw [q] at e;cases e
   | some j=>
     rw[q] at e
     have e:qm δ j= .bld ds:=Option.some.inj e
     unfold qm at e
     split at e <;> cases e
 dis:=fun i j a ds es e=>by
  unfold qJ at e
  by_cases hi:i < own.length
  ·rw[List.getElem?_append_left (by simpa using hi),List.getElem?_replicate] at e
   split at e <;> cases e
  ·rw[List.getElem?_append_right (by simpa using hi),List.length_replicate,List.getElem?_map] at e
   cases q:kp[i - own.length]? with
   | none=>rw [q] at e;cases e
   | some j=>
     rw[q] at e
     have e:qm δ j= .bld ds:=Option.some.inj e
     unfold qm at e
     split at e <;> cases e
theorem yJ{K:PySem.W.Frag}{it:ax→R (List D)}{t:FT}{c:ax→R Bool}{f:FD}{own:List Str}{kp:List Nat}{σ:St}{H:Hp}{Q:VK}(h:tN K (gB it t c f own kp) σ H Q) :
 yk (iD K it) (gD K t) (Ek K c) (tD K f) own kp σ H Q:=by
 obtain⟨Z,B,δ,ds,E,hf,q⟩:=h
 obtain⟨es,h1,h2⟩:=R.aq hf
 obtain⟨hl,h3⟩:=R.br h2
 have hl:=of_decide_eq_true hl
 refine⟨Z,B,δ,es,E,h1,fun J H1 s1 ir Dd hD=>?_⟩
 have E1:=E.same s1
 have pD:dE B H1 (Dd ::B) (upd H1 Dd (.lst [])):=vw hD
 refine⟨fun i m ys H'=>m=es.length - i∧i≤es.length∧ys.length≤i∧H' Dd=some (.lst ys)∧aU H1 H'∧∃done rest,ds=done++rest∧aH K (Dd ::B) H' done ys∧nq t c f (qJ own kp δ) (es.drop i)= .ok rest,
  ⟨es.length,rfl,Nat.zero_le _,Nat.le_refl _,bc,bb hD,[],ds,rfl,aH.nil,by simpa using h3⟩,?_⟩
 rintro i m ys H' ⟨rfl,hi,hy,hDl,ss,done,rest,rfl,rd,hc⟩
 have dB:Dd ∉ B:=fun hb=>by obtain⟨o,ho⟩:=E1.bs Dd hb;rw [hD] at ho;cases ho
 have p':dE B H1 (Dd ::B) H':=fun b o e nb=>⟨ss b o e,fun hb=>by
  rcases List.mem_cons.mp hb with z | z
  ·exact cu e hD z
  ·exact nb z⟩
 have hB':∀a∈Dd ::B,∃o,H' a=some o:=fun a ha=>by
  rcases List.mem_cons.mp ha with z | z
  ·subst z;exact⟨_,hDl⟩
  ·obtain⟨o,ho⟩:=E1.bs a z;exact⟨o,ss a o ho⟩
 obtain⟨go,stop⟩:=ir (Dd ::B) H' p'
 by_cases hlt:i < es.length
 ·have hd:es[i]? =some es[i]:=List.getElem?_eq_getElem hlt
  have hdrop:es.drop i=es[i] ::es.drop (i+1):=List.drop_eq_getElem_cons hlt
  rw[hdrop] at hc
  obtain⟨δ1,h4,h5⟩:=R.aq hc
  obtain⟨b,h6,h7⟩:=R.aq h5
  obtain⟨g1,g2⟩:=go i _ hd
  refine .inr ⟨g1,fun x H2 y=>?_⟩
  obtain⟨sy,ry⟩:=g2 x H2 y hB'
  have Ec:d_ K [] (Dd ::B) H2 (dz own kp σ) (qJ own kp δ):=EV E1 (p'.trans (dE.same sy)) fun a ha=>let⟨o,ho⟩:=hB' a ha;⟨o,sy a o ho⟩
  refine⟨[],Dd ::B,qJ own kp δ,es[i],δ1,Ec,ry,h4,fun σ3 H3 s3 E3 _=>⟨[],Dd ::B,δ1,b,E3,h6,fun H4 s4=>?_⟩⟩
  have sAll:aU H' H4:=sy.trans (s3.trans s4)
  cases b with
  | true=>
    rw[if_pos rfl] at h7
    refine BV ?_
    obtain⟨yv,h8,h9⟩:=R.aq h7
    obtain⟨rs,h10,h11⟩:=R.aq h9
    cases h11
    refine⟨[],Dd ::B,δ1,yv,E3.same s4,h8,fun v H5 s5 r5=>?_⟩
    have s':aU H' H5:=sAll.trans s5
    have hD5:H5 Dd=some (.lst ys):=s' Dd _ hDl
    have pu:dE (Dd ::B) H5 (Dd ::B) (upd H5 Dd (.lst (ys++[v]))):=fun b o e nb=>⟨by rw[bf (fun(z:b=Dd)=>nb (by rw[z];exact List.mem_cons_self))];exact e,nb⟩
    refine⟨hD5,by omega,es.length - (i+1),by omega,rfl,hlt,by rw[List.length_append,List.length_singleton];omega,bc,fun b o e=>?_,done++[yv],rs,by simp,((rd.same s').append (aH.cons r5 aH.nil)).bq pu,h10⟩
    rw[bf (cu e hD)]
    exact s' b o (ss b o e)
  | false=>
    rw[if_neg (by decide)] at h7
    refine Bl ?_
    exact⟨es.length - (i+1),by omega,rfl,hlt,by omega,sAll Dd _ hDl,ss.trans sAll,done,rest,rfl,rd.same sAll,h7⟩
 ·have e:i=es.length:=by omega
  subst e
  rw[List.drop_length] at hc
  cases hc
  rw[List.append_nil] at q
  exact .inl ⟨stop,q Dd ys H' (s1.trans ss) (s1.free hD) hDl rd⟩
theorem CD{scope:Scope}{own:List Str}{kp:List Nat}{kn:List Str}{tg iter elt:Expr}{ifs:List Expr}{it:ax→R (List D)}{t:FT}{c:ax→R Bool}{f:FD}{pos:Pos}(hc:X.calm=true)(C:cq X scope own kp kn)(hi:Gy X tg iter it)
 (hg:∀fp s H,Fc (bB X scope (own++kn) fp s H) tg t) (hif:∀fp s H,nW (bB X scope (own++kn) fp s H) ifs (Ek X.K c)) (he:∀fp s H,PD (bB X scope (own++kn) fp s H) elt f)
 (hs:∀x,foldedSetIterable iter X.env x=pure x:=by intro _;rfl):PN X (.ListComp elt [⟨tg,iter,ifs,0⟩] scope pos) (gB it t c f own kp):=
 (yo hc C hi hg hif he hs).imp fun σ H Q h=>yJ h
noncomputable def sW:ax→R Bool:=fun _=> .ok true
theorem As:nW X [] (Ek X.K sW):=fun pins s σ H Q I ⟨Z,B,δ,b,E,hf,q⟩=>u_ pins s σ H Q I (by cases hf;exact q H (aU.refl H))
theorem C8{e:Expr}{c:ax→R Bool}(h:PB X e c):nW X [e] (Ek X.K c):=uC h
theorem uP{i:Nat}{x:Str}{pos' spos:Pos}{scope:Scope}{own:List Str}{kp:List Nat}{kn:List Str}{tg iter elt:Expr}{ifs:List Expr}{it:ax→R (List D)}{t:FT}{c:ax→R Bool}{f:FD}{pos:Pos}(hc:X.calm=true)
 (hN:X.N.Nodup) (hx:X.N[i]? =some x) (hxl:X.env.scope.names.lookup x=some .local) (C:cq X scope own kp kn) (hi:Gy X tg iter it)
 (hg:∀fp s H,Fc (bB X scope (own++kn) fp s H) tg t) (hif:∀fp s H,nW (bB X scope (own++kn) fp s H) ifs (Ek X.K c)) (he:∀fp s H,PD (bB X scope (own++kn) fp s H) elt f)
 (hsw:swapsWith (.ListComp elt [⟨tg,iter,ifs,0⟩] scope pos) (some (.Name x pos')) spos.line X.env=pure true:=by rfl)
 (hs:∀x,foldedSetIterable iter X.env x=pure x:=by intro _;rfl):Cy X (.Assign [.Name x pos'] (.ListComp elt [⟨tg,iter,ifs,0⟩] scope pos) spos) (ib i (eNew (gB it t c f own kp))):=
 (qk hc hN hx hxl C hi hg hif he hsw hs).imp fun D σ H h=>by
   have h1:=Bh h
   obtain⟨Z,B,δ,d,E,hf,q⟩:=h1
   obtain⟨ds,h2,h3⟩:=R.aq hf
   cases h3
   refine yJ ⟨Z,B,δ,ds,E,h2,fun a xs H' s n e r=>q _ H' s ?_⟩
   unfold Rep
   refine⟨a,xs,rfl, .inl ⟨fun ha=>?_, .inl e⟩,r.bq fun b o e nb=>⟨e,fun hb=>nb (List.mem_cons_of_mem _ hb)⟩⟩
   obtain⟨o,ho⟩:=E.bs a ha
   rw[n] at ho;cases ho
end
noncomputable def cJ(N:List Str)(ds:List D):ax:=ds.map .val++List.replicate (N.length - ds.length) .un
noncomputable def nP(N:List Str)(F:FS):List D→R D:=fun ds=>(F (cJ N ds)).bind fun o=>match o with | .rt d=> .ok d | .nx _=> .ok .cS
theorem Dr{K:PySem.W.Frag}{B:List Addr}{H:Hp}{N:List Str}{ds:List D}{vs:List V}(hB:∀a∈B,∃o,H a=some o)(r:aH K B H ds vs):d_ K B B H (start N vs) (cJ N ds) where
 len:=by unfold start cJ;simp [r.length]
 bs:=hB
 zb:=fun a ha=>ha
 val:=fun i d e=>by
  unfold cJ at e
  unfold start
  by_cases hi:i < ds.length
  ·rw[List.getElem?_append_left (by simpa using hi),List.getElem?_map] at e
   cases q:ds[i]? with
   | none=>rw [q] at e;cases e
   | some d'=>
     rw[q] at e
     cases e
     obtain⟨x,h1,h2⟩:=r.get q
     exact⟨x,by rw[List.getElem?_append_left (by rw[List.length_map,←r.length];exact hi),List.getElem?_map,h1];rfl,h2⟩
  ·rw[List.getElem?_append_right (by simpa using hi),List.getElem?_replicate] at e
   split at e <;> cases e
 bld:=fun i es e=>by
  unfold cJ at e
  by_cases hi:i < ds.length
  ·rw[List.getElem?_append_left (by simpa using hi),List.getElem?_map] at e
   cases q:ds[i]? with
   | none=>rw [q] at e;cases e
   | some d'=>rw [q] at e;cases e
  ·rw[List.getElem?_append_right (by simpa using hi),List.getElem?_replicate] at e
   split at e <;> cases e
 dis:=fun i j a es fs e=>by
  unfold cJ at e
  by_cases hi:i < ds.length
  ·rw[List.getElem?_append_left (by simpa using hi),List.getElem?_map] at e
   cases q:ds[i]? with
   | none=>rw [q] at e;cases e
   | some d'=>rw [q] at e;cases e
  ·rw[List.getElem?_append_right (by simpa using hi),List.getElem?_replicate] at e
   split at e <;> cases e
theorem C9{P:Program}{w:World}{K:PySem.W.Frag}{mg:Str→Option Value}{base:Heap}{x qual:Str}{st:Stmt}{f:Addr}{fd:FuncData}{N ps:List Str}{k:Nat}{F:FS}(Fn:yq K x qual st f fd)(S:aV N ps (ag st))
 (hbody:∀(cdv:Value) (A:Around) (outer:List Env) (s:Shared) (H:Hp) (E:XK),et k (A.deeper (envOfC qual (ag st) s.heap.objs.size f cdv))→
   pk (qP rq P w K mg base N qual (ag st) f cdv A outer s H E).D6 (ao st) F):ig P w K mg base rq (k+1) f fd ps (Bw K ps.length (nP N F)):=by
 refine Fn.ok S (fun vs H Q E h=>h.1) (fun cdv A outer s H vs Q E hr h=>⟨_,hbody cdv A outer s H E hr,?_⟩)
 obtain⟨_,B,ds,d,hB,r,hg,q⟩:=h
 obtain⟨o,h1,h2⟩:=R.aq hg
 refine⟨B,B,cJ N ds,o,Dr hB r,h1,?_⟩
 have sm:∀{B':List Addr} {H':Hp},Ev B B H B' H'→aU H H':=fun {B' H'} ev b u e=>by
  by_cases hb:b∈B
  ·exact(ev.zs b u e hb).1
  ·exact(ev.bq b u e hb).1
 cases o with
 | nx δ'=>
   cases h2
   exact fun σ' B' H' ev _=>q _ H' (sm ev) (by unfold Rep;rfl)
 | rt d'=>
   cases h2
   exact fun v B' H' ev z rr=>q v H' (sm ev) (rr.bq fun b o e nb=>⟨e,fun hb=>nb (z b hb)⟩)
end L2
end
section
set_option maxRecDepth 100000
set_option maxHeartbeats 4000000
namespace L2
open PySem PySem.Spec PyProof.Rows
theorem Rep.int{K:PySem.W.Frag}{B:List Addr}{H:Hp}{i:Int}{v:V}:Rep K B H (.int i) v↔v= .int i:=by unfold Rep;exact Iff.rfl
theorem Rep.bl{K:PySem.W.Frag}{B:List Addr}{H:Hp}{i:Bool}{v:V}:Rep K B H (.bl i) v↔v= .bl i:=by unfold Rep;exact Iff.rfl
theorem Rep.str{K:PySem.W.Frag}{B:List Addr}{H:Hp}{i:Str}{v:V}:Rep K B H (.str i) v↔v= .str i:=by unfold Rep;exact Iff.rfl
theorem Rep.cS{K:PySem.W.Frag}{B:List Addr}{H:Hp}{v:V}:Rep K B H .cS v↔v= .cS:=by unfold Rep;exact Iff.rfl
theorem Rep.lst{K:PySem.W.Frag}{B:List Addr}{H:Hp}{ds:List D}{v:V}:Rep K B H (.lst ds) v↔∃a xs,v= .ref a∧qW K B H a xs∧aH K B H ds xs:=by rw[Rep]
theorem Rep.tup{K:PySem.W.Frag}{B:List Addr}{H:Hp}{ds:List D}{v:V}:Rep K B H (.tup ds) v↔∃a xs,v= .ref a∧sL K B H a xs∧aH K B H ds xs:=by rw[Rep]
section
variable {X:Cx}
theorem kI.of{f:Value→Value→Sem Value}{r:R2}{g:D→D→R D}(h:k_ X f r)
 (w:∀(B:List Addr) (H:Hp) (da db d:D) (x y:V) (Q:VK),(∀a∈B,∃o,H a=some o)→Rep X.K B H da x→Rep X.K B H db y→g da db= .ok d→(∀z H',aU H H'→Rep X.K B H' d z→Q z H')→r x y H Q):kI X f g:=by
 intro pins s σ H B da db d x y v u I hb rx ry ra rb hg
 exact h pins s σ H x y v u _ I rx ry (w B H da db d x y _ hb ra rb hg fun z H' s1 r1=>⟨s1,r1⟩)
theorem fq.of{f:Value}{r:List V→Hp→VK→Prop}{g:List D→R D}(h:nJ X f r)
 (w:∀(B:List Addr) (H:Hp) (ds:List D) (d:D) (xs:List V) (Q:VK),(∀a∈B,∃o,H a=some o)→aH X.K B H ds xs→g ds= .ok d→(∀z H',aU H H'→Rep X.K B H' d z→Q z H')→r xs H Q):fq X f g:=by
 intro pins s σ H B ds d xs us I hb rx rs hg
 exact h pins s σ H xs us _ I rx (w B H ds d xs _ hb rs hg fun z H' s1 r1=>⟨s1,r1⟩)
noncomputable def vM(C:Int→Int→Bool)(g:Int→Int→Int):D→D→R D
 | .int i, .int j=>R.cc (C i j) (.ok (.int (g i j)))
 | _,_=> .no
theorem yB{f:Value→Value→Sem Value}{C:Int→Int→Bool}{Cp:Int→Int→Prop}{g:Int→Int→Int}(h:k_ X f (rI Cp fun i j=> .int (g i j)))(hc:∀i j,C i j=true→Cp i j):kI X f (vM C g):=
 kI.of h fun B H da db d x y Q _ ra rb hg q=>by
  unfold vM at hg
  split at hg
  ·obtain⟨h1,h2⟩:=R.br hg
   cases h2
   exact⟨_,_,Rep.int.mp ra,Rep.int.mp rb,hc _ _ h1,q _ H (aU.refl H) (Rep.int.mpr rfl)⟩
  ·cases hg
noncomputable def nh(g:Int→Int→Int):D→D→R D
 | .int i, .int j=> .ok (.int (g i j))
 | _,_=> .no
theorem tE{f:Value→Value→Sem Value}{g:Int→Int→Int}(h:k_ X f (zS fun i j=> .int (g i j))):kI X f (nh g):=
 kI.of h fun B H da db d x y Q _ ra rb hg q=>by
  unfold nh at hg
  split at hg
  ·cases hg
   exact⟨_,_,Rep.int.mp ra,Rep.int.mp rb,q _ H (aU.refl H) (Rep.int.mpr rfl)⟩
  ·cases hg
noncomputable def ym(g:Int→Int→Bool):D→D→R D
 | .int i, .int j=> .ok (.bl (g i j))
 | _,_=> .no
theorem Bx{f:Value→Value→Sem Value}{g:Int→Int→Bool}(h:k_ X f (zS fun i j=> .bl (g i j))):kI X f (ym g):=
 kI.of h fun B H da db d x y Q _ ra rb hg q=>by
  unfold ym at hg
  split at hg
  ·cases hg
   exact⟨_,_,Rep.int.mp ra,Rep.int.mp rb,q _ H (aU.refl H) (Rep.bl.mpr rfl)⟩
  ·cases hg
noncomputable abbrev jG:D→D→R D:=nh fun i j=>i - j
theorem oZ:kI X (binaryOp .Sub) jG:=tE EZ
noncomputable abbrev oR:D→D→R D:=vM (fun _ j=>decide (0 < j∧j < 1073741824)) fun i j=>i / j
noncomputable abbrev jo:D→D→R D:=vM (fun _ j=>decide (0 < j)) fun i j=>i % j
theorem nS:kI X (binaryOp .Mod) jo:=yB EN fun i j h=>of_decide_eq_true h
noncomputable abbrev pR:D→D→R D:=vM (fun i j=>decide (0≤j∧j≤1000000∧i.natAbs < 2 ^ 64)) fun i j=>i ^ j.toNat
theorem Eg:kI X (binaryOp .Pow) pR:=yB GO fun i j h=>(of_decide_eq_true h:0≤j∧j≤1000000∧i.natAbs < 2 ^ 64)
noncomputable abbrev oI:D→D→R D:=vM (fun _ j=>decide (0≤j)) fun i j=>i / 2 ^ j.toNat
theorem HE:kI X (binaryOp .RShift) oI:=yB Gm fun i j h=>of_decide_eq_true h
noncomputable abbrev zQ:D→D→R D:=nh fun i j=>Builtin.bitAnd i j
theorem uL:kI X (binaryOp .BitAnd) zQ:=tE FR
noncomputable abbrev Cr:D→D→R D:=nh fun i j=>Builtin.bitOr i j
theorem vy:kI X (binaryOp .BitOr) Cr:=tE ID
noncomputable abbrev zw:D→D→R D:=nh fun i j=>Builtin.bitXor i j
theorem tR:kI X (binaryOp .BitXor) zw:=tE Fg
noncomputable abbrev zX:D→D→R D:=ym fun i j=>decide (i < j)
theorem Hu:kI X (compareOp .Lt) zX:=Bx HQ
noncomputable abbrev Ex:D→D→R D:=ym fun i j=>decide (i≤j)
noncomputable abbrev xH:D→D→R D:=ym fun i j=>decide (j < i)
theorem Hn:kI X (compareOp .Gt) xH:=Bx Ih
noncomputable abbrev zT:D→D→R D:=ym fun i j=>decide (j≤i)
theorem HZ:kI X (compareOp .GtE) zT:=Bx Hm
theorem qW.z0{K:PySem.W.Frag}{B:List Addr}{H:Hp}{a:Addr}{xs:List V}(h:H a=some (.lst xs))(n:a ∉ B):qW K B H a xs:= .inl ⟨n, .inl h⟩
theorem Inv.Hg{pins:List (Addr × Obj)}{σ:St}{H:Hp}{s:Shared}{a:Addr}{xs:List V}{B:List Addr}(I:Inv X pins σ H s)(h:qW X.K B H a xs):∃(its:List Value) (n:Nat),Vals xs its∧s.heap.get? a=some {cls:= .type "list",data:= .seq its.toArray n}∧xs.length≤sizeLine:=by
 rcases h with⟨_,h⟩ | ⟨its,n,hk,hz,r⟩
 ·obtain⟨z,its,n,r,e⟩:=h.ok I.hok
  exact⟨its,n,r,e,z⟩
 ·exact⟨its,n,r,I.xE a _ hk,hz⟩
theorem yj:k_ X (binaryOp .Add) (fun x y H Q=>∃B l b xs zs,x= .ref l∧y= .ref b∧qW X.K B H l xs∧qW X.K B H b zs∧xs.length+zs.length≤sizeLine∧∀p,H p=none→Q (.ref p) (upd H p (.lst (xs++zs)))):=by
 intro pins s σ H x y v u Q I rx ry h
 obtain⟨B,l,b,xs,zs,rfl,rfl,hH,hB,hz,q⟩:=h
 cases rx
 cases ry
 obtain⟨its,n,r,e,_⟩:=I.Hg hH
 obtain⟨its2,n2,r2,e2,_⟩:=I.Hg hB
 have l1:=r.length
 have l2:=r2.length
 refine PySem.P.add_list e e2 ?_ (by rw[List.size_toArray,List.size_toArray];omega)
 have ea:its.toArray++its2.toArray=(its++its2).toArray:=by simp
 rw[ea]
 exact⟨.ref _,_,I.Ds (t':=s.toks) (r.append r2) (by rw[List.length_append];omega),rfl,q _ I.fresh⟩
noncomputable def e_:D→D→R D
 | .int i, .int j=> .ok (.int (i+j))
 | .str a, .str b=>R.cc (decide (a.length+b.length≤sizeLine)) (.ok (.str (a++b)))
 | .lst a, .lst b=>R.cc (decide (a.length+b.length≤sizeLine)) (.ok (.lst (a++b)))
 | _,_=> .no
theorem hJ:kI X (binaryOp .Add) e_:=by
 intro pins s σ H B da db d x y v u I hb rx ry ra rb hg
 unfold e_ at hg
 split at hg
 ·cases hg
  exact EX pins s σ H x y v u _ I rx ry ⟨_,_,Rep.int.mp ra,Rep.int.mp rb,aU.refl H,Rep.int.mpr rfl⟩
 ·obtain⟨h1,h2⟩:=R.br hg
  cases h2
  exact vX pins s σ H x y v u _ I rx ry ⟨_,_,Rep.str.mp ra,Rep.str.mp rb,of_decide_eq_true h1,aU.refl H,Rep.str.mpr rfl⟩
 ·obtain⟨h1,h2⟩:=R.br hg
  cases h2
  obtain⟨a1,xs1,rfl,l1,r1⟩:=Rep.lst.mp ra
  obtain⟨a2,xs2,rfl,l2,r2⟩:=Rep.lst.mp rb
  refine yj pins s σ H _ _ v u _ I rx ry ⟨B,a1,a2,xs1,xs2,rfl,rfl,l1,l2,by rw[←r1.length,←r2.length];exact of_decide_eq_true h1,fun p hp=>⟨bb hp,Rep.lst.mpr ⟨p,_,rfl, .z0 bc fun ha=>?_,(r1.append r2).same (bb hp)⟩⟩⟩
  obtain⟨o,ho⟩:=hb p ha
  rw[hp] at ho;cases ho
 ·cases hg
theorem DH:k_ X (binaryOp .Mult) (fun x y H Q=>∃z n,x= .str z∧y= .int n∧MulOk z n∧Q (.str (Txt.mul z n)) H):=by
 intro pins s σ H x y v u Q I rx ry h
 obtain⟨z,n,rfl,rfl,hm,q⟩:=h
 obtain⟨t,rfl⟩:=rx
 obtain⟨t',rfl⟩:=ry
 exact SB.mul hm fun t2 k=>⟨.str _,H,I.tok _,⟨_,rfl⟩,q⟩
end
end L2
end
section
set_option maxRecDepth 100000
set_option maxHeartbeats 4000000
namespace L2
open PySem PySem.Spec PyProof.Rows
section
variable {X:Cx}
theorem mulOk_of{x:Str}{n:Int}(h1: -(2 ^ 63)≤n)(h2:n < 2 ^ 63)(h3:x.length*n.toNat≤sizeLine):MulOk x n:=by
 refine⟨by simp only[Bool.or_eq_false_iff,decide_eq_false_iff_not];omega,fun hn _=>?_,fun hn _=>?_⟩
 ·have hz:sizeLine=16777216:=sizeLine_eq
  have e:(n.toNat:Int)=n:=by omega
  have h4:(x.length:Int)*n≤16777216:=by
   have:((x.length*n.toNat:Nat):Int)≤((16777216:Nat):Int):=Int.ofNat_le.mpr (by omega)
   rw[Int.natCast_mul,e] at this
   exact this
  have:(x.length:Int)≤(2 ^ 63 - 1) / n:=(Int.le_ediv_iff_mul_le (by omega)).mpr (by omega)
  omega
 ·unfold Builtin.Str.tooLong;exact decide_eq_false (by omega)
noncomputable def mw:D→D→R D
 | .int i, .int j=>R.cc (decide ((-(2 ^ 64) < i∧i < 2 ^ 64)∨(-(2 ^ 64) < j∧j < 2 ^ 64))) (.ok (.int (i*j)))
 | .str x, .int n=>R.cc (decide (-(2 ^ 63)≤n∧n < 2 ^ 63∧x.length*n.toNat≤sizeLine)) (.ok (.str (Txt.mul x n)))
 | _,_=> .no
theorem vN:kI X (binaryOp .Mult) mw:=by
 intro pins s σ H B da db d x y v u I hb rx ry ra rb hg
 unfold mw at hg
 split at hg
 ·obtain⟨h1,h2⟩:=R.br hg
  cases h2
  have h1:=of_decide_eq_true h1
  exact F8 pins s σ H x y v u _ I rx ry ⟨_,_,Rep.int.mp ra,Rep.int.mp rb,h1,aU.refl H,Rep.int.mpr rfl⟩
 ·obtain⟨h1,h2⟩:=R.br hg
  cases h2
  have h1:=of_decide_eq_true h1
  exact DH pins s σ H x y v u _ I rx ry ⟨_,_,Rep.str.mp ra,Rep.int.mp rb,mulOk_of h1.1 h1.2.1 h1.2.2,aU.refl H,Rep.str.mpr rfl⟩
 ·cases hg
mutual
noncomputable def toPy:D→PyData
 | .cS=> .none
 | .bl b=> .bool b
 | .int i=> .int i
 | .str x=> .str x
 | .lst ds=> .list (kz ds)
 | .tup ds=> .tuple (kz ds)
 | .dct _ _=> .dict []
noncomputable def kz:List D→List PyData
 | []=>[]
 | d ::ds=>toPy d ::kz ds
end
mutual
noncomputable def eD:D→Bool
 | .dct _ _=>false
 | .lst ds=>jn ds
 | .tup ds=>jn ds
 | _=>true
noncomputable def jn:List D→Bool
 | []=>true
 | d ::ds=>eD d && jn ds
end
mutual
theorem Rep.reads{pins:List (Addr × Obj)}{σ:St}{H:Hp}{s:Shared}{B:List Addr}(I:Inv X pins σ H s):∀{d:D} {v:V} {u:Value},eD d=true→Rep X.K B H d v→RelV v u→∃as,Reads s.heap u (toPy d) as
 | .cS,v,u,_,r,q=>by rw[Rep.cS.mp r] at q;cases q;unfold toPy;exact⟨_, .none⟩
 | .bl b,v,u,_,r,q=>by rw[Rep.bl.mp r] at q;cases q;unfold toPy;exact⟨_, .bool b⟩
 | .int i,v,u,_,r,q=>by rw[Rep.int.mp r] at q;obtain⟨t,rfl⟩:=q;unfold toPy;exact⟨_, .int i t⟩
 | .str x,v,u,_,r,q=>by rw[Rep.str.mp r] at q;obtain⟨t,rfl⟩:=q;unfold toPy;exact⟨_, .str x t⟩
 | .lst ds,v,u,hp,r,q=>by
   obtain⟨a,xs,rfl,l,rs⟩:=Rep.lst.mp r
   cases q
   obtain⟨its,rv,⟨o,n,e,hc,hd,he⟩,_⟩:=I.list l.sq
   obtain⟨as,ra⟩:=aH.reads I (by unfold eD at hp;exact hp) rs rv
   unfold toPy
   exact⟨_, .list e hc he (by simpa using ra)⟩
 | .tup ds,v,u,hp,r,q=>by
   obtain⟨a,xs,rfl,l,rs⟩:=Rep.tup.mp r
   cases q
   obtain⟨its,rv,⟨o,e,hc,n,hd⟩,_⟩:=I.tuple l.sq
   obtain⟨as,ra⟩:=aH.reads I (by unfold eD at hp;exact hp) rs rv
   unfold toPy
   exact⟨_, .tuple e hc hd (by simpa using ra)⟩
 | .dct _ _,v,u,hp,r,q=>by unfold eD at hp;cases hp
theorem aH.reads{pins:List (Addr × Obj)}{σ:St}{H:Hp}{s:Shared}{B:List Addr}(I:Inv X pins σ H s):∀{ds:List D} {vs:List V} {us:List Value},jn ds=true→aH X.K B H ds vs→Vals vs us→∃as,ReadsAll s.heap us (kz ds) as
 | [],vs,us,_,r,q=>by unfold aH at r;subst r;cases q;unfold kz;exact⟨_, .nil⟩
 | d ::ds,vs,us,hp,r,q=>by
   obtain⟨x,xs,rfl,r1,r2⟩:=r.cC
   cases q with
   | cons q1 q2=>
     unfold jn at hp
     obtain⟨h1,h2⟩:=Bool.and_eq_true_iff.mp hp
     obtain⟨as,a1⟩:=Rep.reads I h1 r1 q1
     obtain⟨bs,a2⟩:=aH.reads I h2 r2 q2
     unfold kz
     exact⟨_, .cons a1 a2⟩
end
noncomputable def Cs:D→D→R Bool
 | .int i, .int j=> .ok (decide (i=j))
 | .str x, .str y=> .ok (decide (x=y))
 | .bl a, .bl b=> .ok (decide (a=b))
 | d,e=>R.cc (eD d && eD e && SeqAt.shaped (toPy d) && SeqAt.shaped (toPy e)) (.ok (PyData.eqv (toPy d) (toPy e)))
noncomputable def jC(d e:D):R D:=(Cs d e).bind fun b=> .ok (.bl b)
noncomputable def rn(d e:D):R D:=(Cs d e).bind fun b=> .ok (.bl (!b))
theorem jR(hu:X.A.units+64 < cLine):kI X (compareOp .Eq) jC:=by
 intro pins s σ H B da db d x y v u I hb rx ry ra rb hg
 obtain⟨b,h1,h2⟩:=R.aq hg
 cases h2
 unfold Cs at h1
 split at h1
 ·cases h1
  rename_i i j
  have:=Aw pins s σ H x y v u (fun z H'=>aU H H'∧Rep X.K B H' (.bl (decide (i=j))) z) I rx ry
  rw[Rep.int.mp ra,Rep.int.mp rb] at this
  refine this ⟨rfl,aU.refl H,Rep.bl.mpr ?_⟩
  simp [V.int.injEq]
 ·cases h1
  rename_i i j
  have:=Aw pins s σ H x y v u (fun z H'=>aU H H'∧Rep X.K B H' (.bl (decide (i=j))) z) I rx ry
  rw[Rep.str.mp ra,Rep.str.mp rb] at this
  refine this ⟨rfl,aU.refl H,Rep.bl.mpr ?_⟩
  simp [V.str.injEq]
 ·cases h1
  rename_i i j
  have:=Aw pins s σ H x y v u (fun z H'=>aU H H'∧Rep X.K B H' (.bl (decide (i=j))) z) I rx ry
  rw[Rep.bl.mp ra,Rep.bl.mp rb] at this
  refine this ⟨rfl,aU.refl H,Rep.bl.mpr ?_⟩
  simp [V.bl.injEq]
 ·obtain⟨h3,h4⟩:=R.br h1
  cases h4
  simp only[Bool.and_eq_true] at h3
  obtain⟨⟨⟨p1,p2⟩,s1⟩,s2⟩:=h3
  obtain⟨as,r1⟩:=ra.reads I p1 rx
  obtain⟨bs,r2⟩:=rb.reads I p2 ry
  exact eq_dataH r1 r2 s1 s2 hu ⟨.bl _,H,I,rfl,aU.refl H,Rep.bl.mpr rfl⟩
theorem Aa(hu:X.A.units+64 < cLine):kI X (compareOp .NotEq) rn:=by
 intro pins s σ H B da db d x y v u I hb rx ry ra rb hg
 obtain⟨b,h1,h2⟩:=R.aq hg
 cases h2
 unfold Cs at h1
 split at h1
 ·cases h1
  rename_i i j
  have:=AW pins s σ H x y v u (fun z H'=>aU H H'∧Rep X.K B H' (.bl (!decide (i=j))) z) I rx ry
  rw[Rep.int.mp ra,Rep.int.mp rb] at this
  refine this ⟨rfl,aU.refl H,Rep.bl.mpr ?_⟩
  simp [V.int.injEq]
 ·cases h1
  rename_i i j
  have:=AW pins s σ H x y v u (fun z H'=>aU H H'∧Rep X.K B H' (.bl (!decide (i=j))) z) I rx ry
  rw[Rep.str.mp ra,Rep.str.mp rb] at this
  refine this ⟨rfl,aU.refl H,Rep.bl.mpr ?_⟩
  simp [V.str.injEq]
 ·cases h1
  rename_i i j
  have:=AW pins s σ H x y v u (fun z H'=>aU H H'∧Rep X.K B H' (.bl (!decide (i=j))) z) I rx ry
  rw[Rep.bl.mp ra,Rep.bl.mp rb] at this
  refine this ⟨rfl,aU.refl H,Rep.bl.mpr ?_⟩
  simp [V.bl.injEq]
 ·obtain⟨h3,h4⟩:=R.br h1
  cases h4
  simp only[Bool.and_eq_true] at h3
  obtain⟨⟨⟨p1,p2⟩,s1⟩,s2⟩:=h3
  obtain⟨as,r1⟩:=ra.reads I p1 rx
  obtain⟨bs,r2⟩:=rb.reads I p2 ry
  exact ne_dataH r1 r2 s1 s2 hu ⟨.bl _,H,I,rfl,aU.refl H,Rep.bl.mpr rfl⟩
noncomputable def strs?:List D→Option (List Str)
 | []=>some []
 | .str x ::ds=>(strs? ds).map (x ::·)
 | _ ::_=>none
theorem jD{K:PySem.W.Frag}{B:List Addr}{H:Hp}:∀{ds:List D} {xs:List V} {ss:List Str},aH K B H ds xs→strs? ds=some ss→xs=ss.map V.str
 | [],xs,ss,r,h=>by unfold aH at r;subst r;cases h;rfl
 | d ::ds,xs,ss,r,h=>by
   obtain⟨x,r',rfl,r1,r2⟩:=r.cC
   cases d with
   | str z=>
     unfold strs? at h
     cases e:strs? ds with
     | none=>rw [e] at h;cases h
     | some tt=>
       rw[e] at h
       cases h
       rw[Rep.str.mp r1,jD r2 e]
       rfl
   | _=>cases h
noncomputable def ints?:List D→Option (List Int)
 | []=>some []
 | .int x ::ds=>(ints? ds).map (x ::·)
 | _ ::_=>none
theorem fN{K:PySem.W.Frag}{B:List Addr}{H:Hp}:∀{ds:List D} {xs:List V} {ss:List Int},aH K B H ds xs→ints? ds=some ss→xs=ss.map V.int
 | [],xs,ss,r,h=>by unfold aH at r;subst r;cases h;rfl
 | d ::ds,xs,ss,r,h=>by
   obtain⟨x,r',rfl,r1,r2⟩:=r.cC
   cases d with
   | int z=>
     unfold ints? at h
     cases e:ints? ds with
     | none=>rw [e] at h;cases h
     | some tt=>
       rw[e] at h
       cases h
       rw[Rep.int.mp r1,fN r2 e]
       rfl
   | _=>cases h
noncomputable def inD(d e:D):R Bool:=match d,e with
 | .str x, .lst ds=>(match strs? ds with | some ss=> .ok (ss.contains x) | none=> .no)
 | .str x, .tup ds=>(match strs? ds with | some ss=> .ok (ss.contains x) | none=> .no)
 | .str x, .str y=> .ok (!(Builtin.Str.occurrences y x 0 y.length 1).isEmpty)
 | .int x, .lst ds=>(match ints? ds with | some ss=> .ok (ss.contains x) | none=> .no)
 | .int x, .tup ds=>(match ints? ds with | some ss=> .ok (ss.contains x) | none=> .no)
 | _,_=> .no
noncomputable def qM(d e:D):R D:=(inD d e).bind fun b=> .ok (.bl b)
noncomputable def lx(d e:D):R D:=(inD d e).bind fun b=> .ok (.bl (!b))
theorem qw(x:Str):∀ss:List Str,Em (.str x) (ss.map V.str)=ss.contains x
 | []=>rfl
 | y ::ss=>by
   unfold Em
   rw[List.map_cons,List.any_cons]
   have ih:=qw x ss
   unfold Em at ih
   rw[ih]
   show(y==x || ss.contains x)=_
   rw[List.contains_cons]
   congr 1
   exact Bool.eq_iff_iff.mpr ⟨fun h=>by simpa using(beq_iff_eq.mp h).symm,fun h=>by simpa using(beq_iff_eq.mp h).symm⟩
theorem qb(x:Int):∀ss:List Int,Em (.int x) (ss.map V.int)=ss.contains x
 | []=>rfl
 | y ::ss=>by
   unfold Em
   rw[List.map_cons,List.any_cons]
   have ih:=qb x ss
   unfold Em at ih
   rw[ih]
   show(y==x || ss.contains x)=_
   rw[List.contains_cons]
   congr 1
   exact Bool.eq_iff_iff.mpr ⟨fun h=>by simpa using(beq_iff_eq.mp h).symm,fun h=>by simpa using(beq_iff_eq.mp h).symm⟩
theorem og(ss:List Int):(ss.map V.int).all jh=true:=by
 rw[List.all_map]
 simp [List.all_eq_true,jh]
theorem sx(ss:List Str):(ss.map V.str).all jh=true:=by
 rw[List.all_map]
 simp [List.all_eq_true,jh]
theorem GV{neg:Bool}{op:CmpOp}{g:D→D→R D}(h1:k_ X (compareOp op) (Kt X.K neg))(h2:k_ X (compareOp op) (fun x y H Q=>∃i j,x= .str i∧y= .str j∧Q (.bl (if neg then !(!(Builtin.Str.occurrences j i 0 j.length 1).isEmpty) else(!(Builtin.Str.occurrences j i 0 j.length 1).isEmpty))) H))
 (hg:∀d e r,g d e= .ok r→∃b,inD d e= .ok b∧r= .bl (if neg then !b else b)):kI X (compareOp op) g:=by
 intro pins s σ H B da db d x y v u I hb rx ry ra rb hg'
 obtain⟨b,hi,rfl⟩:=hg da db d hg'
 unfold inD at hi
 split at hi
 ·rename_i z ds
  split at hi
  ·rename_i ss e
   cases hi
   obtain⟨a,xs,rfl,l,rs⟩:=Rep.lst.mp rb
   refine h1 pins s σ H x _ v u _ I rx ry ⟨a,xs,rfl, .inl l.sq,by rw[Rep.str.mp ra];rfl,by rw[jD rs e];exact sx _,aU.refl H,Rep.bl.mpr ?_⟩
   rw[jD rs e,Rep.str.mp ra,qw]
  ·cases hi
 ·rename_i z ds
  split at hi
  ·rename_i ss e
   cases hi
   obtain⟨a,xs,rfl,l,rs⟩:=Rep.tup.mp rb
   refine h1 pins s σ H x _ v u _ I rx ry ⟨a,xs,rfl, .inr l.sq,by rw[Rep.str.mp ra];rfl,by rw[jD rs e];exact sx _,aU.refl H,Rep.bl.mpr ?_⟩
   rw[jD rs e,Rep.str.mp ra,qw]
  ·cases hi
 ·cases hi
  exact h2 pins s σ H x y v u _ I rx ry ⟨_,_,Rep.str.mp ra,Rep.str.mp rb,aU.refl H,Rep.bl.mpr rfl⟩
 ·rename_i z ds
  split at hi
  ·rename_i ss e
   cases hi
   obtain⟨a,xs,rfl,l,rs⟩:=Rep.lst.mp rb
   refine h1 pins s σ H x _ v u _ I rx ry ⟨a,xs,rfl, .inl l.sq,by rw[Rep.int.mp ra];rfl,by rw[fN rs e];exact og _,aU.refl H,Rep.bl.mpr ?_⟩
   rw[fN rs e,Rep.int.mp ra,qb]
  ·cases hi
 ·rename_i z ds
  split at hi
  ·rename_i ss e
   cases hi
   obtain⟨a,xs,rfl,l,rs⟩:=Rep.tup.mp rb
   refine h1 pins s σ H x _ v u _ I rx ry ⟨a,xs,rfl, .inr l.sq,by rw[Rep.int.mp ra];rfl,by rw[fN rs e];exact og _,aU.refl H,Rep.bl.mpr ?_⟩
   rw[fN rs e,Rep.int.mp ra,qb]
  ·cases hi
 ·cases hi
theorem Dm:kI X (compareOp .In) qM:=GV (neg:=false) zK yO fun d e r h=>by
 obtain⟨b,h1,h2⟩:=R.aq h
 cases h2
 exact⟨b,h1,rfl⟩
noncomputable def cD(d e:D):R D:=match d,e with
 | .lst ds, .int i=>(match o_ ds i with | some x=> .ok x | none=> .no)
 | .tup ds, .int i=>(match o_ ds i with | some x=> .ok x | none=> .no)
 | .str x, .int i=>R.cc (decide (x.length≤sizeLine)) (match o_ x.cps.toList i with | some c=> .ok (.str ⟨#[c]⟩) | none=> .no)
 | _,_=> .no
theorem nQ{K:PySem.W.Frag}{B:List Addr}{H:Hp}{ds:List D}{xs:List V}{i:Int}{d:D}(r:aH K B H ds xs)(h:o_ ds i=some d):∃x,o_ xs i=some x∧Rep K B H d x:=by
 unfold o_ at h ⊢
 rw[←r.length]
 cases e:qa ds.length i with
 | none=>rw [e] at h;cases h
 | some j=>
   rw[e] at h
   exact r.get h
theorem Ij{a b:Expr}{fa fb:FD}{pos:Pos}(ha:PD X a fa)(hb:PD X b fb)(hs:pO b):PD X (.Subscript a b pos) (e2 cD fa fb):=by
 refine(Ey (r:=JD X.K) B4 ha hb hs).imp fun σ H Q ⟨Z,B,δ,d,E,hf,q⟩=>?_
 obtain⟨d1,h1,h2⟩:=R.aq hf
 obtain⟨d2,h3,h4⟩:=R.aq h2
 refine⟨Z,B,δ,d1,E,h1,fun v1 H1 s1 r1=>⟨Z,B,δ,d2,E.same s1,h3,fun v2 H2 s2 r2=>?_⟩⟩
 have r1':=r1.same s2
 unfold cD at h4
 split at h4
 ·split at h4
  ·rename_i e
   cases h4
   obtain⟨p,xs,rfl,l,rs⟩:=Rep.lst.mp r1'
   obtain⟨y,e1,e2⟩:=nQ rs e
   exact .inl ⟨p,xs,_,y,rfl,Rep.int.mp r2,l.sq,e1,q y H2 (s1.trans s2) e2⟩
  ·cases h4
 ·split at h4
  ·rename_i e
   cases h4
   obtain⟨p,xs,rfl,l,rs⟩:=Rep.tup.mp r1'
   obtain⟨y,e1,e2⟩:=nQ rs e
   exact .inr (.inl ⟨p,xs,_,y,rfl,Rep.int.mp r2,l.sq,e1,q y H2 (s1.trans s2) e2⟩)
  ·cases h4
 ·obtain⟨hl,h5⟩:=R.br h4
  split at h5
  ·rename_i e
   cases h5
   exact .inr (.inr ⟨_,_,_,Rep.str.mp r1',Rep.int.mp r2,of_decide_eq_true hl,e,q _ H2 (s1.trans s2) (Rep.str.mpr rfl)⟩)
  ·cases h5
 ·cases h4
noncomputable abbrev FO:=ax→R (Option Int)
noncomputable def LB(K:PySem.W.Frag)(f:FO):TO:=fun σ H Q=>∃Z B δ o,d_ K Z B H σ δ∧f δ= .ok o∧∀H',aU H H'→Q o H'
theorem PO.imp{X:Cx}{e:Option Expr}{t t':TO}(h:PO X e t)(w:∀σ H Q,t' σ H Q→t σ H Q):PO X e t':=fun pins s σ H Q I hq=>h pins s σ H Q I (w σ H Q hq)
noncomputable abbrev PP(X:Cx)(e:Option Expr)(f:FO):Prop:=PO X e (LB X.K f)
noncomputable def kB:FO:=fun _=> .ok none
noncomputable def hW(f:FD):FO:=fun δ=>(f δ).bind fun d=>match d with | .int i=> .ok (some i) | _=> .no
theorem DM:PP X none kB:=Du.imp fun σ H Q ⟨Z,B,δ,o,E,hf,q⟩=>by cases hf;exact q H (aU.refl H)
theorem Dn{e:Expr}{f:FD}(h:PD X e f):PP X (some e) (hW f):=(D2 h).imp fun σ H Q ⟨Z,B,δ,o,E,hf,q⟩=>by
 obtain⟨d,h1,h2⟩:=R.aq hf
 cases d with
 | int i=>cases h2;exact⟨Z,B,δ, .int i,E,h1,fun v H1 s1 r1=>⟨i,Rep.int.mp r1,q H1 s1⟩⟩
 | _=>cases h2
theorem Gq:Fh X (fun x lo hi H Q=>∃z,x= .str z∧z.length≤sizeLine∧Q (.str (Txt.slice z lo hi)) H):=by
 intro pins s σ H x v vl vu lo hi sl Q I rx hs pl pu h
 obtain⟨z,rfl,hz,q⟩:=h
 obtain⟨t,rfl⟩:=rx
 refine⟨"str",_,F.slot_str_getitem.lookup,typeIs_str _ _ _,?_⟩
 have fin:∀t' k,EP X pins σ Q (.str (Txt.slice z lo hi) t') {s with toks:=k}:=fun t' k=>⟨.str _,H,I.tok _,⟨_,rfl⟩,q⟩
 obtain⟨o,ho,hc,hd⟩:=hs
 cases pl with
 | none=>
   cases pu with
   | none=>exact wpAny_getItem_str_slice (l:=none) (u:=none) (st:=none) ⟨o,ho,hc,hd⟩ rfl (post_val_or_str ⟨Nat.le_trans (Txt.slice_le z _ _) hz,fin⟩)
   | int j u=>exact wpAny_getItem_str_slice (l:=none) (u:=some (j,u)) (st:=none) ⟨o,ho,hc,hd⟩ rfl (post_val_or_str ⟨Nat.le_trans (Txt.slice_le z _ _) hz,fin⟩)
 | int i t1=>
   cases pu with
   | none=>exact wpAny_getItem_str_slice (l:=some (i,t1)) (u:=none) (st:=none) ⟨o,ho,hc,hd⟩ rfl (post_val_or_str ⟨Nat.le_trans (Txt.slice_le z _ _) hz,fin⟩)
   | int j u=>exact wpAny_getItem_str_slice (l:=some (i,t1)) (u:=some (j,u)) (st:=none) ⟨o,ho,hc,hd⟩ rfl (post_val_or_str ⟨Nat.le_trans (Txt.slice_le z _ _) hz,fin⟩)
noncomputable def cutD{α:Type}(xs:List α)(lo hi:Option Int):List α:=(xs.drop (HT.qY xs.length 0 lo)).take (HT.qY xs.length xs.length hi - HT.qY xs.length 0 lo)
noncomputable def FK(d:D)(lo hi:Option Int):R D:=match d with
 | .str x=>R.cc (decide (x.length≤sizeLine)) (.ok (.str (Txt.slice x lo hi)))
 | .lst ds=> .ok (.lst (cutD ds lo hi))
 | _=> .no
theorem AO{K:PySem.W.Frag}{B:List Addr}{H:Hp}{ds:List D}{xs:List V}(r:aH K B H ds xs)(lo hi:Option Int):aH K B H (cutD ds lo hi) (wm xs lo hi):=by
 unfold cutD wm
 rw[←r.length]
 exact(r.drop _).take _
noncomputable def wj(f:FD)(fl fh:FO):FD:=fun δ=>(f δ).bind fun d=>(fl δ).bind fun lo=>(fh δ).bind fun hi=>FK d lo hi
theorem Iq{e:Expr}{lo hi:Option Expr}{f:FD}{fl fh:FO}{p2 pos:Pos}(he:PD X e f)(hl:PP X lo fl)(hh:PP X hi fh):PD X (.Subscript e (.Slice lo hi none p2) pos) (wj f fl fh):=by
 refine(Al (Gq.or Dh) he hl hh).imp fun σ H Q ⟨Z,B,δ,d,E,hf,q⟩=>?_
 obtain⟨d1,h1,h2⟩:=R.aq hf
 obtain⟨l,h3,h4⟩:=R.aq h2
 obtain⟨h,h5,h6⟩:=R.aq h4
 refine⟨Z,B,δ,d1,E,h1,fun v1 H1 s1 r1=>⟨Z,B,δ,l,E.same s1,h3,fun H2 s2=>⟨Z,B,δ,h,(E.same s1).same s2,h5,fun H3 s3=>?_⟩⟩⟩
 have sA:aU H H3:=s1.trans (s2.trans s3)
 have r1':=r1.same (s2.trans s3)
 unfold FK at h6
 split at h6
 ·obtain⟨hz,h7⟩:=R.br h6
  cases h7
  exact .inl ⟨_,Rep.str.mp r1',of_decide_eq_true hz,q _ H3 sA (Rep.str.mpr rfl)⟩
 ·cases h6
  obtain⟨a,xs,rfl,ls,rs⟩:=Rep.lst.mp r1'
  refine .inr ⟨a,xs,rfl,ls.sq,fun p hp=>q _ _ (sA.trans (bb hp)) (Rep.lst.mpr ⟨p,_,rfl, .z0 bc fun ha=>?_,(AO rs l h).same (bb hp)⟩)⟩
  obtain⟨o,ho⟩:=(E.same sA).bs p ha
  rw[hp] at ho;cases ho
 ·cases h6
end
end L2
end
section
set_option maxRecDepth 100000
set_option maxHeartbeats 4000000
namespace L2
open PySem PySem.Spec PyProof.Rows
section
variable {X:Cx}
theorem aH.one{K:PySem.W.Frag}{B:List Addr}{H:Hp}{d:D}{xs:List V}(h:aH K B H [d] xs):∃x,xs=[x]∧Rep K B H d x:=by
 obtain⟨x,r,rfl,h1,h2⟩:=h.cC
 unfold aH at h2
 subst h2
 exact⟨x,rfl,h1⟩
theorem aH.two{K:PySem.W.Frag}{B:List Addr}{H:Hp}{d e:D}{xs:List V}(h:aH K B H [d,e] xs):∃x y,xs=[x,y]∧Rep K B H d x∧Rep K B H e y:=by
 obtain⟨x,r,rfl,h1,h2⟩:=h.cC
 obtain⟨y,rfl,h3⟩:=h2.one
 exact⟨x,y,rfl,h1,h3⟩
noncomputable def cP:List D→R D
 | [.str x]=>R.cc (decide (x.length≤sizeLine)) (.ok (.int x.length))
 | [.lst ds]=> .ok (.int ds.length)
 | [.tup ds]=> .ok (.int ds.length)
 | _=> .no
theorem dv:fq X (.builtin "len") cP:=fq.of Br fun B H ds d xs Q _ rs hg q=>by
 unfold cP at hg
 split at hg
 ·obtain⟨h1,h2⟩:=R.br hg
  cases h2
  obtain⟨x,rfl,r⟩:=rs.one
  exact⟨x,_,rfl,by rw[Rep.str.mp r];exact⟨of_decide_eq_true h1,rfl⟩,q _ H (aU.refl H) (Rep.int.mpr rfl)⟩
 ·cases hg
  obtain⟨x,rfl,r⟩:=rs.one
  obtain⟨a,ys,rfl,l,r⟩:=Rep.lst.mp r
  exact⟨_,_,rfl, .inl ⟨ys,l.sq,rfl⟩,q _ H (aU.refl H) (Rep.int.mpr (by rw[r.length]))⟩
 ·cases hg
  obtain⟨x,rfl,r⟩:=rs.one
  obtain⟨a,ys,rfl,l,r⟩:=Rep.tup.mp r
  exact⟨_,_,rfl, .inr ⟨ys,l.sq,rfl⟩,q _ H (aU.refl H) (Rep.int.mpr (by rw[r.length]))⟩
 ·cases hg
noncomputable def cInt:List D→R D
 | [.int i]=> .ok (.int i)
 | [.bl b]=> .ok (.int (if b then 1 else 0))
 | _=> .no
noncomputable def cStr:List D→R D
 | [.int i]=>R.cc (decide (i.natAbs.log2 < 1920)) (.ok (.str (toString i)))
 | _=> .no
noncomputable def qS:List D→R D
 | [.int i, .int j]=> .ok (.int (if j < i then j else i))
 | _=> .no
theorem Hs(hc:X.calm=true):fq X (.builtin "min") qS:=fq.of (zo hc) fun B H ds d xs Q _ rs hg q=>by
 unfold qS at hg
 split at hg
 ·cases hg
  obtain⟨x,y,rfl,r1,r2⟩:=rs.two
  exact⟨_,_,by rw[Rep.int.mp r1,Rep.int.mp r2],q _ H (aU.refl H) (Rep.int.mpr rfl)⟩
 ·cases hg
noncomputable def Fe:List D→R D
 | [.int i, .int j]=> .ok (.int (if j > i then j else i))
 | _=> .no
theorem Ig(hc:X.calm=true):fq X (.builtin "max") Fe:=fq.of (zi hc) fun B H ds d xs Q _ rs hg q=>by
 unfold Fe at hg
 split at hg
 ·cases hg
  obtain⟨x,y,rfl,r1,r2⟩:=rs.two
  exact⟨_,_,by rw[Rep.int.mp r1,Rep.int.mp r2],q _ H (aU.refl H) (Rep.int.mpr rfl)⟩
 ·cases hg
noncomputable def fH:List D→R D
 | [.lst ds]=> .ok (.tup ds)
 | [.tup ds]=> .ok (.tup ds)
 | _=> .no
theorem pL:fq X (.type "tuple") fH:=fq.of rm fun B H ds d xs Q hb rs hg q=>by
 unfold fH at hg
 split at hg
 ·cases hg
  obtain⟨x,rfl,r⟩:=rs.one
  obtain⟨a,ys,rfl,l,r⟩:=Rep.lst.mp r
  refine⟨a,ys,rfl, .inl ⟨l.sq,fun p hp=>q _ _ (bb hp) (Rep.tup.mpr ⟨p,ys,rfl, .inl ⟨fun ha=>?_, .inl bc⟩,r.same (bb hp)⟩)⟩⟩
  obtain⟨o,ho⟩:=hb p ha
  rw[hp] at ho;cases ho
 ·cases hg
  obtain⟨x,rfl,r⟩:=rs.one
  have r0:=r
  obtain⟨a,ys,rfl,l,r⟩:=Rep.tup.mp r
  exact⟨a,ys,rfl, .inr ⟨l.sq,q _ H (aU.refl H) r0⟩⟩
 ·cases hg
noncomputable def oO:List D→R D
 | [.lst ds]=> .ok (.lst ds)
 | [.tup ds]=> .ok (.lst ds)
 | _=> .no
noncomputable def cAbs:List D→R D
 | [.int i]=> .ok (.int (if i < 0 then -i else i))
 | _=> .no
theorem HF:fq X (.builtin "abs") cAbs:=fq.of z9 fun B H ds d xs Q _ rs hg q=>by
 unfold cAbs at hg
 split at hg
 ·cases hg
  obtain⟨x,rfl,r⟩:=rs.one
  exact⟨_,by rw[Rep.int.mp r],q _ H (aU.refl H) (Rep.int.mpr rfl)⟩
 ·cases hg
noncomputable def KC:List D→R D
 | [.lst ds]=>(match ints? ds with | some ns=> .ok (.int ns.sum) | none=> .no)
 | _=> .no
theorem jw:∀{ns:List Int} {us:List Value},Vals (ns.map V.int) us→∃l:List (Int × Tok),us=l.map (fun p=>Value.int p.1 p.2)∧l.map (·.1)=ns
 | [],_, .nil=>⟨[],rfl,rfl⟩
 | n ::ns,_, .cons r t=>by
   obtain⟨l,rfl,e⟩:=jw t
   obtain⟨tk,rfl⟩:=r
   exact⟨(n,tk) ::l,rfl,by rw[List.map_cons,e]⟩
noncomputable def tyName:D→String
 | .cS=>"NoneType" | .bl _=>"bool" | .int _=>"int" | .str _=>"str" | .lst _=>"list" | .tup _=>"tuple" | .dct _ _=>"dict"
noncomputable def uK(T:String)(f:FD):FD:=fun δ=>(f δ).bind fun d=>R.cc (tyName d==T && d.atom) (.ok (.bl true))
noncomputable def He(X:Cx)(id:String)(g:D→List D→R D):Prop:=
 ∀(pins:List (Addr × Obj)) (s:Shared) (σ:St) (H:Hp) (B:List Addr) (da d:D) (ds:List D) (x:V) (xs:List V) (v:Value) (us:List Value),Inv X pins σ H s→(∀a∈B,∃o,H a=some o)→RelV x v→Vals xs us→Rep X.K B H da x→aH X.K B H ds xs→g da ds= .ok d→
  wpAny (model X.prog X.w) X.A (call (.builtin id) (v ::us)) (EP X pins σ fun z H'=>aU H H'∧Rep X.K B H' d z) X.xe s
noncomputable def sf(T:String)(g:D→List D→R D)(f:FD)(fs:ax→R (List D)):FD:=fun δ=>(f δ).bind fun d=>R.cc (tyName d==T && (d.atom || T=="list")) ((fs δ).bind fun ds=>g d ds)
theorem He.r{id:String}{g:D→List D→R D}(h:He X id g):Ky X id (fun x xs H Q=>∃B da ds d,(∀a∈B,∃o,H a=some o)∧Rep X.K B H da x∧aH X.K B H ds xs∧g da ds= .ok d∧∀z H',aU H H'→Rep X.K B H' d z→Q z H'):=by
 intro pins s σ H x xs v us Q I rx rxs ⟨B,da,ds,d,hb,ra,rs,hg,q⟩
 exact dN (h pins s σ H B da d ds x xs v us I hb rx rxs ra rs hg) fun z s' ⟨zv,H',I',r',s1,r1⟩=>⟨zv,H',I',r',q zv H' s1 r1⟩
theorem Er{T id:String}{name:Str}{g:D→List D→R D}{o e:Expr}{es:List Expr}{f:FD}{fs:ax→R (List D)}{apos cpos:Pos}(pa:PlainAttrs T)(slot:Slot T name id)(hty:typeOf (.builtin id)=pure (.type "method_descriptor"))(hm:He X id g)(ho:PD X o f)(ha:BY X (e ::es) fs)
 (hT:T="str"∨T="int"∨T="list")
 (hbase:attributeBase o name X.env (eval o X.env)=eval o X.env:=by rfl)
 (hfew:((backTo cpos (starEach (e ::es) X.env)).all (fun x=>!x.1) && (backToKw cpos (keywordEach [] X.env)).all (fun x=>x.1.isSome)
   && decide ((e ::es).length+([]:List Keyword).length+(if([]:List Keyword).isEmpty then 0 else 1) < 30))=true:=by rfl)
 (hline:(apos.endLine==cpos.line)=true:=by rfl) (hs:starEach (e ::es) X.env=(false,eval e X.env) ::starEach es X.env:=by rfl) (hplain:(backTo cpos (starEach es X.env)).any (·.1)=false:=by rfl) :
 PD X (.Call (.Attribute o name apos) (e ::es) [] cpos) (sf T g f fs):=by
 refine(B0 pa slot hty hm.r ho ha hbase hfew hline hs hplain).imp fun σ H Q ⟨Z,B,δ,d,E,hf,q⟩=>?_
 obtain⟨d1,h1,h2⟩:=R.aq hf
 obtain⟨h3,h4⟩:=R.br h2
 obtain⟨ds,h5,h6⟩:=R.aq h4
 obtain⟨h7,h8⟩:=Bool.and_eq_true_iff.mp h3
 have h7:tyName d1=T:=by simpa using h7
 refine⟨Z,B,δ,d1,E,h1,fun v1 H1 s1 r1=>⟨?_,Z,B,δ,ds,E.same s1,h5,fun vs H2 s2 r2=>⟨B,d1,ds,d,(E.same (s1.trans s2)).bs,r1.same s2,r2,h6,fun z H' s3 r3=>q z H' (s1.trans (s2.trans s3)) r3⟩⟩⟩
 cases d1 with
 | str z=>rw [Rep.str.mp r1];exact h7.symm
 | int i=>rw [Rep.int.mp r1];exact h7.symm
 | lst es=>obtain⟨a,xs,rfl,l,_⟩:=Rep.lst.mp r1;exact .inl ⟨h7.symm,xs,l.sq⟩
 | cS=>rcases hT with z | z | z <;> (rw [z] at h7;exact absurd (show("NoneType":String)=_ from h7) (by decide))
 | bl _=>rcases hT with z | z | z <;> (rw [z] at h7;exact absurd (show("bool":String)=_ from h7) (by decide))
 | tup _=>rcases hT with z | z | z <;> (rw [z] at h7;exact absurd (show("tuple":String)=_ from h7) (by decide))
 | dct _ _=>rcases hT with z | z | z <;> (rw [z] at h7;exact absurd (show("dict":String)=_ from h7) (by decide))
noncomputable def Kb(d:D)(ds:List D):R D:=match d,ds with
 | .str sep,[.lst es]=>(match strs? es with | some ss=>R.cc (JoinOk sep ss) (.ok (.str (Str.join sep ss))) | none=> .no)
 | _,_=> .no
noncomputable abbrev PJ(X:Cx)(es:List Expr)(f:ax→R (List Str)):Prop:=
 ∀(pins:List (Addr × Obj)) (s:Shared) (σ:St) (H:Hp) (Z B:List Addr) (δ:ax) (acc:Str) (ss:List Str) (Q:VK),Inv X pins σ H s→d_ X.K Z B H σ δ→f δ= .ok ss→(ss.foldl (·++·) acc).length≤sizeLine→(∀H',aU H H'→Q (.str (ss.foldl (·++·) acc)) H')→
  wpAny (model X.prog X.w) X.A (joinParts acc (evalEach es X.env)) (EP X pins σ Q) X.xe s
noncomputable def uo:ax→R (List Str):=fun _=> .ok []
noncomputable def o7(f:FD)(g:ax→R (List Str)):ax→R (List Str):=fun δ=>(f δ).bind fun d=>match d with | .str x=>(g δ).bind fun ss=> .ok (x ::ss) | _=> .no
noncomputable def jc(g:ax→R (List Str)):FD:=fun δ=>(g δ).bind fun ss=>R.cc (decide ((ss.foldl (·++·) Str.empty).length≤sizeLine)) (.ok (.str (ss.foldl (·++·) Str.empty)))
noncomputable def tV:D→R D
 | .str x=>R.cc (decide (x.length≤sizeLine)) (.ok (.str x))
 | .int i=>R.cc (decide (i.natAbs.log2 < 1920)) (.ok (.str (toString i)))
 | _=> .no
noncomputable def vV(f:FD):FD:=fun δ=>(f δ).bind tV
noncomputable def Iy:List (D × D)→Str→R (Option D)
 | [],_=> .ok none
 | (.str y,d) ::r,x=>(Iy r x).bind fun o=> .ok (match o with | some e=>some e | none=>if y=x then some d else none)
 | _ ::_,_=> .no
noncomputable def Ia(x:Str):List D:=x.cps.toList.map fun c=> .str ⟨#[c]⟩
noncomputable def LY(x:Str):It:=⟨fun i _=>i < x.cps.size,fun i H v H'=>H'=H∧∃c,x.cps[i]? =some c∧v= .str ⟨#[c]⟩,fun i _=>x.cps.size≤i⟩
noncomputable def Ko(f:FD):ax→R (List D):=fun δ=>(f δ).bind fun d=>match d with | .str x=> .ok (Ia x) | _=> .no
noncomputable def Lz(K:PySem.W.Frag)(a:Addr):It:=
 ⟨fun i H=>∃xs x,nV K H a xs∧xs[i]? =some x,fun i H v H'=>∃p x,H p=none∧v= .ref p∧(∀xs,nV K H a xs→xs[i]? =some x)∧H'=upd H p (.tup [.int i,x]),fun i H=>∃xs,nV K H a xs∧xs.length≤i⟩
theorem y0{P:Program}{w:World}{K:PySem.W.Frag}{elts:List Expr}{k:Nat}{pos:Pos}(a e it:Addr)(hei:e≠it):Turn P w K (.Tuple elts k pos) (Lz K a) [e,it] e (fun i h=>(∃old,IsEnum h e it ((i:Nat):Int) old)∧h.IsListIter it a i) where
 mem:=by simp
 obj:=fun i h st b hb=>by
  obtain⟨⟨old,he⟩,o,ho,c,d⟩:=st
  rcases List.mem_cons.mp hb with rfl | hb
  ·exact⟨_,he,fun v z=>by cases z⟩
  ·have e:b=it:=by simpa using hb
   subst e
   exact⟨o,ho,fun v z=>by rw[d] at z;cases z⟩
 keep:=fun i h h' st k=>by
  obtain⟨⟨old,he⟩,hi⟩:=st
  exact⟨⟨old,k e (by simp) _ he⟩,hi.at fun o x=>k it (by simp) o x⟩
 item:=by
  intro X hP hw hK hc i pins s σ H E I hf st hg
  subst hP hw hK
  obtain⟨xs,x,hq,hx⟩:=hg
  obtain⟨its,rv,p,hz⟩:=I.list hq
  obtain⟨u,hu,ru⟩:=rv.get hx
  obtain⟨⟨old,he⟩,hit⟩:=st
  obtain⟨f0,f1,f2,f3,f4,f5⟩:=hf e (by simp)
  obtain⟨g0,g1,g2,g3,g4,g5⟩:=hf it (by simp)
  refine wpAny_pyNext_enum_item he hit p.isList (x:=u) (by simpa using hu) hei fun h₁ heo hit₁ ht₁ hz₁ hk₁=>⟨_,rfl,?_⟩
  refine wpAny_letOwnedTupleGo_enum heo fun h₂ he₂ hs₂=>?_
  replace hs₂:Heap.SameBut e h₁ h₂:=hs₂
  have hel:e < s.heap.objs.size:=Heap.lt_size he
  have ht₂:h₂.get? s.heap.objs.size=some {cls:= .type "tuple",data:= .seq #[.int i s.toks,u]}:=(hs₂.2 _ (Nat.ne_of_gt hel)).trans ht₁
  have kk:∀b o,b≠e→b≠it→s.heap.get? b=some o→h₂.get? b=some o:=fun b o h1 h2 q=>(hs₂.2 b h1).trans (hk₁ b o h1 h2 q)
  have hn:H s.heap.objs.size=none:=I.fresh
  have sm:aU H (upd H s.heap.objs.size (.tup [.int i,x])):=bb hn
  have nit:∀b o,H b=some o→b≠e∧b≠it:=fun b o q=>⟨fun z=>(by rw[z,f0] at q;cases q),fun z=>(by rw[z,g0] at q;cases q)⟩
  have hok:lX X.prog X.w (upd H s.heap.objs.size (.tup [.int i,x])) h₂:=fun b ob q=>by
   by_cases hb:b=s.heap.objs.size
   ·subst hb
    rw[bc] at q
    cases q
    exact⟨by show 2≤sizeLine;decide,[.int i s.toks,u], .cons ⟨_,rfl⟩ (.cons ru .nil),⟨_,ht₂,rfl,_,rfl⟩⟩
   ·rw[bf hb] at q
    refine(I.hok b ob q).sZ (fun c v hc z=>?_) (fun c z=>sm c _ z) fun c ys z=>sm c _ z
    rcases hc with rfl | hc
    ·exact kk c v (nit c _ q).1 (nit c _ q).2 z
    ·exact kk c v (nit c _ hc).1 (nit c _ hc).2 z
  have nch:∀b,b ∉ [e,it]→b≠e∧b≠it:=fun b hb=>⟨fun z=>hb (by simp [z]),fun z=>hb (by simp [z])⟩
  have I2:Inv X pins σ (upd H s.heap.objs.size (.tup [.int i,x])) {s with heap:=h₂,toks:=s.toks+1}:=by
   refine I.step (g':=s.gens) (d':=s.drawn) (ch:=[e,it]) (fun b hb=>?_) (fun b o _ _ hb q _=>kk b o (nch b hb).1 (nch b hb).2 q) (fun b o _ _ hb q _=>⟨o.slots,kk b o (nch b hb).1 (nch b hb).2 q⟩)
    (fun b o hb q n=>by rw[bf (Nat.ne_of_lt (Heap.lt_size q))];exact n) (fun b o hb q=>⟨o,kk b o (nch b hb).1 (nch b hb).2 q⟩) (fun b ys z=>sm b _ z) (fun b o u z=>sm b _ z) (fun b ps z=>⟨#[],by rw[sm b _ z];simp⟩) (fun m hm=>?_) hok I.bare
   ·rcases List.mem_cons.mp hb with rfl | hb
    ·exact⟨f3,f1,f4,f5⟩
    ·have z:b=it:=by simpa using hb
     subst z
     exact⟨g3,g1,g4,g5⟩
   ·obtain⟨o,es,ep,ho,r⟩:=hm
    exact⟨o,es,ep,kk _ o (Ne.symm f1) (Ne.symm g1) ho,r⟩
  refine⟨.ref s.heap.objs.size,_,I2,rfl,⟨s.heap.objs.size,x,hn,rfl,fun ys hy=>(by rw[I.nF hy hq];exact hx),rfl⟩,⟨⟨_,by simpa using he₂⟩,hit₁.at fun o q=>(hs₂.2 it (Ne.symm hei)).trans q⟩,fun b hb=>?_⟩
  rcases List.mem_cons.mp hb with rfl | hb
  ·rw[bf (Nat.ne_of_lt hel)];exact f0
  ·have z:b=it:=by simpa using hb
   subst z
   obtain⟨o,ho,_⟩:=hit
   rw[bf (Nat.ne_of_lt (Heap.lt_size ho))];exact g0
 done:=by
  intro X hP hw hK hc i pins s σ H E I hf st hg
  subst hP hw hK
  obtain⟨xs,hq,hx⟩:=hg
  obtain⟨its,rv,p,hz⟩:=I.list hq
  obtain⟨⟨old,he⟩,hit⟩:=st
  obtain⟨g0,g1,g2,g3,g4,g5⟩:=hf it (by simp)
  have hl:=rv.length
  exact wpAny_pyNext_enum_end (I.ok.hd hc) he hit p.isList (by simp;omega) fun h' eb=>⟨rfl,I.turned (t':=s.toks) (fun b o hb q=>eb b o hb q) g0 g1 g3 g4 g5⟩
 self:=fun A i s Q E st h=>let⟨⟨_,he⟩,_⟩:=st;wpAny_pyIter_enum he h
noncomputable def di(ds:List D):List D:=ds.zipIdx.map fun p=> .tup [.int p.2,p.1]
noncomputable def iZ(f:FD):ax→R (List D):=fun δ=>(f δ).bind fun d=>match d with | .lst ds=> .ok (di ds) | _=> .no
theorem uW{elts:List Expr}{k:Nat}{tpos:Pos}{a:Expr}{f:FD}{p pos:Pos}(h:PD X a f)(hg:Gl X "enumerate")(hm:X.mg "enumerate"=none)(hs:starEach [a] X.env=[(false,eval a X.env)]:=by rfl):Gy X (.Tuple elts k tpos) (.Call (.Name "enumerate" p) [a] [] pos) (iZ f):=by
 intro pins s σ H RR I ⟨Z,B,δ,ds,E,hf,q⟩
 obtain⟨d,h1,h2⟩:=R.aq hf
 have hA:=ic h j2 hs pos pins s σ H (fun vs H1=>aU H H1∧∃v,vs=[v]∧Rep X.K B H1 d v) I ⟨Z,B,δ,d,E,h1,fun v H1 s1 r1=>⟨s1,v,rfl,r1⟩⟩
 refine Call_ (mF I hg hm boot_enumerate (PyProof.Rows.callWith_type1 (dN hA fun us s1 ⟨vs,H1,I1,r1,ss,v,ev,rr⟩=>?_) hs rfl))
 subst ev
 obtain⟨u,rfl,ru⟩:=vals1 r1
 cases d with
 | lst es=>
   cases h2
   obtain⟨b,xs,rfl,l,rs⟩:=Rep.lst.mp rr
   cases ru
   obtain⟨its,n,rv,e1,hz⟩:=I1.Hg l
   refine call_enumerate_list (items:=its.toArray) ⟨_,e1,rfl,n,rfl⟩ fun h' he hit hsz kk=>wpAny_pyIter_enum he ?_
   have I2:Inv X pins σ H1 {s1 with heap:=h'}:=I1.kept (t':=s1.toks) kk
   refine⟨s1.heap.objs.size+1,[s1.heap.objs.size+1,s1.heap.objs.size],_,_,H1,rfl,I2,y0 b (s1.heap.objs.size+1) s1.heap.objs.size (Nat.succ_ne_self _),⟨⟨_,he⟩,hit⟩,fun c hc=>?_,q _ H1 ss fun B' H' pr=>?_⟩
   ·have hle:s1.heap.objs.size≤c:=by
     rcases List.mem_cons.mp hc with z | hc
     ·rw[z];exact Nat.le_succ _
     ·have z:c=s1.heap.objs.size:=by simpa using hc
      rw[z];exact Nat.le_refl _
    exact I1.rA hle (I1.hok.fresh hle)
   ·have l':qW X.K B' H' b xs:=l.bq pr
    have rs':=rs.bq pr
    refine⟨fun i d hd=>?_,⟨xs,l'.sq,by rw[←rs.length];unfold di;simp⟩⟩
    unfold di at hd
    rw[List.getElem?_map,List.getElem?_zipIdx] at hd
    cases e:es[i]? with
    | none=>rw [e] at hd;cases hd
    | some d0=>
      rw[e] at hd
      have hd:D.tup [.int ((0+i:Nat):Int),d0]=d:=Option.some.inj hd
      rw[Nat.zero_add] at hd
      obtain⟨x,hx,rx⟩:=rs'.get e
      refine⟨⟨xs,x,l'.sq,hx⟩,fun v H'' y hB'=>?_⟩
      obtain⟨p,y,hp,rfl,hy,rfl⟩:=y
      refine⟨bb hp,?_⟩
      subst hd
      have hy2:=hy xs l'.sq
      rw[hx] at hy2
      cases hy2
      refine Rep.tup.mpr ⟨p,_,rfl, .inl ⟨fun ha=>?_, .inl bc⟩,aH.cons (Rep.int.mpr rfl) (aH.cons (rx.same (bb hp)) aH.nil)⟩
      obtain⟨o,ho⟩:=hB' p ha
      rw[hp] at ho;cases ho
 | _=>cases h2
end
end L2
end
section
set_option maxRecDepth 100000
set_option maxHeartbeats 4000000
namespace L2
open PySem PySem.Spec PyProof.Rows
noncomputable def Def(K:PySem.W.Frag)(mg:Str→Option Value)(x:Str)(st:Stmt):Prop:=∃f fd,yq K x x st f fd∧mg x=some (.ref f)
noncomputable def Callee(P:Program)(w:World)(K:PySem.W.Frag)(mg:Str→Option Value)(base:Heap)(k:Nat)(x:Str)(n:Nat)(g:List D→R D):Prop:=
 ∃f fd ps,ig P w K mg base rq k f fd ps (Bw K n g)∧mg x=some (.ref f)∧PySem.W.keepIn K (.ref f)=true∧Binds K fd ps []
theorem cw:∀(δ:ax) (ds:List D),aL δ= .ok ds→ds.length=0:=fun δ ds h=>by cases h;rfl
theorem aR{f:FD}{g:ax→R (List D)}{n:Nat}(h:∀(δ:ax) (ds:List D),g δ= .ok ds→ds.length=n):∀(δ:ax) (ds:List D),au f g δ= .ok ds→ds.length=n+1:=fun δ ds e=>by
 obtain⟨d,h1,h2⟩:=R.aq e
 obtain⟨es,h3,h4⟩:=R.aq h2
 cases h4
 rw[List.length_cons,h δ es h3]
theorem A2{P:Program}{w:World}{K:PySem.W.Frag}{mg:Str→Option Value}{base:Heap}{x qual:Str}{st:Stmt}{f:Addr}{fd:FuncData}{N ps:List Str}{k:Nat}{F:FS}{b:List Stmt}{sc:Scope}(hb:ao st=b)(hs:ag st=sc)(Fn:yq K x qual st f fd)(S:aV N ps sc)
 (hbody:∀(cdv:Value) (A:Around) (outer:List Env) (s:Shared) (H:Hp) (E:XK),et k (A.deeper (envOfC qual sc s.heap.objs.size f cdv))→
   pk (qP rq P w K mg base N qual sc f cdv A outer s H E).D6 b F):ig P w K mg base rq (k+1) f fd ps (Bw K ps.length (nP N F)):=by
 subst hb hs
 exact C9 Fn S hbody
section
variable {X:Cx}
theorem A3{g:List D→R D}{k j n:Nat}{x:Str}{p pos:Pos}{e:Expr}{es:List Expr}{fs:ax→R (List D)}(C:Callee X.prog X.w X.K X.mg X.base k x n g)(hr:et j X.A)(hkj:k≤j)(hg:Gl X x)(ha:BY X (e ::es) fs)
 (hn:∀δ ds,fs δ= .ok ds→ds.length=n) (hdb:(x==("__debug__":Str))=false:=by decide) (he:starEach (e ::es) X.env=(false,eval e X.env) ::starEach es X.env:=by rfl) (hpl:(backTo pos (starEach es X.env)).any (·.1)=false:=by rfl) :
 PD X (.Call (.Name x p) (e ::es) [] pos) (aP g fs):=by
 obtain⟨f,fd,ps,F,hm,hk,hb⟩:=C
 exact DQ F (hr.mono hkj) hg hm hk hb ha hn hdb he hpl
noncomputable def Ie(sc:Scope)(N:List Str)(scope:Scope)(kp:List Nat)(kn:List Str):Bool:=
 decide (scope.kind= .function) && scope.names.all (fun y=>decide (y.2≠ .cell)) && scope.names.all (fun y=>decide (y.2= .local→scope.names.lookup y.1=some .local))
  && scope.names.all (fun y=>decide (y.2= .free→(sc.names.lookup y.1=some .cell∨sc.names.lookup y.1=some .free))) && decide (kn.length=kp.length)
  && (List.range kp.length).all (fun j=>decide ((kp[j]?).bind (N[·]?)=kn[j]?)) && kn.all (fun x=>decide (scope.names.lookup x=some .free))
theorem cq.of{scope:Scope}{own:List Str}{kp:List Nat}{kn:List Str}{sc:Scope}{N:List Str}(h1:X.env.scope=sc)(h2:X.N=N)(h:Ie sc N scope kp kn=true):cq X scope own kp kn:=by
 unfold Ie at h
 simp only[Bool.and_eq_true,decide_eq_true_eq,List.all_eq_true] at h
 obtain⟨⟨⟨⟨⟨⟨a1,a2⟩,a3⟩,a4⟩,a5⟩,a6⟩,a7⟩:=h
 refine⟨a1,a2,a3,fun y hy hf=>?_,a5,fun j i x hj hx=>?_,a7⟩
 ·have:=a4 y hy hf
  unfold Env.kindOf
  rw[h1]
  exact this
 ·have hlt:j < kp.length:=(List.getElem?_eq_some_iff.mp hj).1
  have:=a6 j (List.mem_range.mpr hlt)
  rw[hj] at this
  rw[h2]
  exact this.trans hx
noncomputable def Fv(kvs:List (Key × V))(f g:FD):FD:=fun δ=>(f δ).bind fun k=>(g δ).bind fun d=>match k with
 | .str x=>(match k7 (jA [] kvs) (Sum.inr x) with | some (.int i)=> .ok (.int i) | none=> .ok d | _=> .no)
 | _=> .no
theorem ED{keys:List (Option Expr)}{values:List Expr}{trs:List (TE × TE)}{dpos apos cpos:Pos}{e f:Expr}{fe ff:FD}{kvs:List (Key × V)}(hu:X.A.units+1 < cLine)(h:G2 X dpos keys values trs)(hall:keys.all (·.isSome)=true)(hl:keys.length=values.length)(h0:keys≠[])
 (hc:∀σ H Q,Q (kvs.map fun kv=>(kV kv.1,kv.2)) H→qA trs σ H Q) (hlen:kvs.length≤15) (he:PD X e fe) (hf:PD X f ff) (m:M2 X (.Dict keys values dpos) "get" apos e f cpos)
 (hd:PE X (.Dict keys values dpos) (BJ trs)):PD X (.Call (.Attribute (.Dict keys values dpos) "get" apos) [e,f] [] cpos) (Fv kvs fe ff):=by
 refine(Af hu hd he hf m).imp fun σ H Q ⟨Z,B,δ,d,E,hfd,q⟩=>?_
 obtain⟨k,h1,h2⟩:=R.aq hfd
 obtain⟨dd,h3,h4⟩:=R.aq h2
 intro p hp
 refine hc σ _ _ ⟨bc,kvs,rfl,hlen,p,rfl, .inl ⟨_, .inl bc⟩,?_⟩
 rw[DS]
 have s0:aU H (upd H p (.dK (jA [] kvs))):=bb hp
 refine⟨Z,B,δ,k,E.same s0,h1,fun v1 H1 s1 r1=>⟨Z,B,δ,dd,(E.same s0).same s1,h3,fun v2 H2 s2 r2=>?_⟩⟩
 have hH2:H2 p=some (.dK (jA [] kvs)):=s2 p _ (s1 p _ bc)
 have sA:aU H H2:=s0.trans (s1.trans s2)
 split at h4
 ·rename_i x
  refine⟨k7 (jA [] kvs) (Sum.inr x),?_,?_⟩
  ·rw[Rep.str.mp r1];exact qZ.k (k:=Sum.inr x) hH2
  ·split at h4
   ·rename_i i e1
    cases h4
    rw[e1]
    exact q _ H2 sA (Rep.int.mpr rfl)
   ·rename_i e1
    cases h4
    rw[e1]
    exact q _ H2 sA r2
   ·cases h4
 ·cases h4
noncomputable def o3(i:Nat)(f:FD):FS:=fun δ=>(f δ).bind fun d=>match d with
 | .lst es=>(ji δ i).bind fun ds=>R.cc (decide (ds.length+es.length≤sizeLine)) (.ok (.nx (δ.set i (.bld (ds++es)))))
 | _=> .no
end
end L2
end
section
set_option maxRecDepth 100000
set_option maxHeartbeats 4000000
namespace L2
open PySem PySem.Spec PyProof.Rows
structure QD (X:Cx) (e:Expr) (f:FD):Prop where
 h:PD X e f
structure QN (X:Cx) (e:Expr) (f:ax→R (List D)):Prop where
 h:PN X e f
structure QB (X:Cx) (e:Expr) (f:ax→R Bool):Prop where
 h:PB X e f
structure GA (X:Cx) (e:Expr) (f:ax→R Bool):Prop where
 h:Cv X e f
structure Cu (X:Cx) (e:List Expr) (f:ax→R (List D)):Prop where
 h:BY X e f
structure DI (X:Cx) (e:Stmt) (f:FS):Prop where
 h:Cy X e f
structure rF (X:Cx) (e:List Stmt) (f:FS):Prop where
 h:pk X e f
structure GW (X:Cx) (e:Expr) (f:FT):Prop where
 h:Fc X e f
structure D8 (X:Cx) (e:List Expr) (f:Ac):Prop where
 h:BF X e f
structure w_ (X:Cx) (tg e:Expr) (f:ax→R (List D)):Prop where
 h:Gy X tg e f
structure QP (X:Cx) (e:Option Expr) (f:FO):Prop where
 h:PP X e f
structure QJ (X:Cx) (e:List Expr) (f:ax→R (List Str)):Prop where
 h:PJ X e f
structure CB (X:Cx) (e:List Expr) (c:ax→R Bool):Prop where
 h:nW X e (Ek X.K c)
section
variable {X:Cx}
theorem cU{e:Expr}{f:ax→R (List D)}(h:QN X e f):QD X e (eNew f):=⟨GB h.1⟩
theorem aa(i:Nat){x:Str}{pos:Pos}(hN:X.N[i]? =some x:=by rfl)(hv:Ei X.env.scope x:=by first | exact Or.inl rfl | exact Or.inr (Or.inl rfl) | exact Or.inr (Or.inr rfl))(hd:(x==("__debug__":Str))=false:=by decide)(hcd:(x==("__classdict__":Str))=false:=by decide):QD X (.Name x pos) (ai i):=⟨Gd i hN hv hd hcd⟩
theorem ah{i j pos}:QD X (.Constant (.int i) j pos) (eC (.int i)):=⟨Gf⟩
theorem FI{b j pos}:QD X (.Constant (.bool b) j pos) (eC (.bl b)):=⟨HP⟩
theorem xK{j pos}:QD X (.Constant .none j pos) (eC .cS):=⟨FE⟩
theorem bA{x j pos}:QD X (.Constant (.str x) j pos) (eC (.str x)):=⟨Fo⟩
theorem ak:Cu X [] aL:=⟨Di⟩
theorem ab{e:Expr}{es:List Expr}{f:FD}{g:ax→R (List D)}(h:QD X e f)(t:Cu X es g)(hs:starEach (e ::es) X.env=(false,eval e X.env) ::starEach es X.env:=by rfl):Cu X (e ::es) (au f g):=⟨AF h.1 t.1 hs⟩
theorem cx{es:List Expr}{g:ax→R (List D)}{x1 pos}(h:Cu X es g):QD X (.Tuple es x1 pos) (dU g):=⟨Gr h.1⟩
theorem bV{es:List Expr}{g:ax→R (List D)}{pos}(h:Cu X es g):QN X (.List es pos) (dA g):=⟨Gs h.1⟩
theorem aO{op:Operator}{g:D→D→R D}{a b:Expr}{fa fb:FD}{pos:Pos}(ho:kI X (binaryOp op) g)(ha:QD X a fa)(hb:QD X b fb):QD X (.BinOp a op b pos) (e2 g fa fb):=⟨HR ho ha.1 hb.1⟩
theorem bJ{op:CmpOp}{g:D→D→R D}{a b:Expr}{fa fb:FD}{pos:Pos}(ho:kI X (compareOp op) g)(ha:QD X a fa)(hb:QD X b fb)(hm:behindInMarks op b=false):QB X (.Compare a [op] [b] pos) (b2 g fa fb):=⟨GD ho ha.1 hb.1 hm⟩
theorem xC{a:Expr}{f:FD}(ha:QD X a f)(he:∀whole,isTrue a X.env whole=(do let v ←whole;standAt a.pos;holding [v] (truthy v)):=by intro _;rfl):QB X a (ma f):=⟨FL ha.1 he⟩
theorem tq{e:Expr}{f:ax→R Bool}(h:GA X e f):QB X e f:=⟨Cv.pb h.1⟩
theorem rZ{a:Expr}{f:ax→R Bool}{pos:Pos}(h:QB X a f):GA X (.BoolOp .And [a] pos) f:=⟨BX h.1⟩
theorem Ca{a:Expr}{f:ax→R Bool}{pos:Pos}(h:QB X a f):GA X (.BoolOp .Or [a] pos) f:=⟨D_ h.1⟩
theorem vg{a b:Expr}{rest:List Expr}{f g:ax→R Bool}{pos:Pos}(ha:QB X a f)(hb:GA X (.BoolOp .And (b ::rest) pos) g):GA X (.BoolOp .And (a ::b ::rest) pos) (mE f g):=⟨D1 ha.1 hb.1⟩
theorem Dz{a b:Expr}{rest:List Expr}{f g:ax→R Bool}{pos:Pos}(ha:QB X a f)(hb:GA X (.BoolOp .Or (b ::rest) pos) g):GA X (.BoolOp .Or (a ::b ::rest) pos) (xw f g):=⟨Fd ha.1 hb.1⟩
theorem yE{a:Expr}{f:ax→R Bool}{pos:Pos}(ha:QB X a f):QB X (.UnaryOp .Not a pos) (mm f):=⟨GF ha.1⟩
theorem xo{c a b:Expr}{fc:ax→R Bool}{f g:FD}{pos:Pos}(hc:QB X c fc)(ha:QD X a f)(hb:QD X b g):QD X (.IfExp c a b pos) (wW fc f g):=⟨Hy hc.1 ha.1 hb.1⟩
theorem aX{g:List D→R D}{x:Str}{id:String}{p pos:Pos}{e:Expr}{es:List Expr}{fs:ax→R (List D)}(hc:fq X (.builtin id) g)(hg:Gl X x)(hm:X.mg x=none)(hv:bootBuiltins x=some (.builtin id))(ha:Cu X (e ::es) fs)(hn:x≠"__name__":=by decide)(hdb:(x==("__debug__":Str))=false:=by decide)(he:starEach (e ::es) X.env=(false,eval e X.env) ::starEach es X.env:=by rfl)(hpl:(backTo pos (starEach es X.env)).any (·.1)=false:=by rfl):QD X (.Call (.Name x p) (e ::es) [] pos) (aP g fs):=⟨Bt hc hg hm hv ha.1 hn hdb he hpl⟩
theorem kf{g:List D→R D}{x:Str}{T:String}{p pos:Pos}{e:Expr}{es:List Expr}{fs:ax→R (List D)}(hc:fq X (.type T) g)(hg:Gl X x)(hm:X.mg x=none)(hv:bootBuiltins x=some (.type T))(ha:Cu X (e ::es) fs)(hn:x≠"__name__":=by decide)(hdb:(x==("__debug__":Str))=false:=by decide)(he:starEach (e ::es) X.env=(false,eval e X.env) ::starEach es X.env:=by rfl)(hpl:(backTo pos (starEach es X.env)).any (·.1)=false:=by rfl):QD X (.Call (.Name x p) (e ::es) [] pos) (aP g fs):=⟨y8 hc hg hm hv ha.1 hn hdb he hpl⟩
theorem fu:rF X [] jz:=⟨CC⟩
theorem bQ{st:Stmt}{rest:List Stmt}{F G:FS}(h1:DI X st F)(h2:rF X rest G):rF X (st ::rest) (el F G):=⟨A5 h1.1 h2.1⟩
theorem bx{st:Stmt}{F:FS}(h1:DI X st F):rF X [st] F:=⟨CZ h1.1⟩
theorem iJ{i:Nat}{x:Str}{e:Expr}{f:FD}{pos pos':Pos}(hN:X.N.Nodup)(hi:X.N[i]? =some x)(hx:Loc X.env.scope x)(he:QD X e f)(hs:swapsWith e (some (.Name x pos')) pos.line X.env=pure false:=by rfl)(hf:X.fn x=true∨X.env.scope.names.lookup x=some .local:=by first | exact .inl rfl | exact .inr rfl | assumption):DI X (.Assign [.Name x pos'] e pos) (ib i f):=⟨DB hN hi hx he.1 hs hf⟩
theorem BM{i:Nat}{x:Str}{e:Expr}{f:ax→R (List D)}{pos pos':Pos}(hN:X.N.Nodup)(hi:X.N[i]? =some x)(hx:Loc X.env.scope x)(he:QN X e f)(hs:swapsWith e (some (.Name x pos')) pos.line X.env=pure false:=by rfl)(hf:X.fn x=true∨X.env.scope.names.lookup x=some .local:=by first | exact .inl rfl | exact .inr rfl | assumption):DI X (.Assign [.Name x pos'] e pos) (nc i f):=⟨CG hN hi hx he.1 hs hf⟩
theorem z_{i:Nat}{x:Str}{e:Expr}{f:FD}{npos apos cpos pos:Pos}(hN:X.N[i]? =some x)(hv:Ei X.env.scope x)(he:QD X e f)(hd:(x==("__debug__":Str))=false:=by decide)(hcd:(x==("__classdict__":Str))=false:=by decide)(hs:starEach [e] X.env=(false,eval e X.env) ::starEach [] X.env:=by rfl)(hline:(apos.endLine==cpos.line)=true:=by rfl)(hfew:((backTo cpos (starEach [e] X.env)).all (fun x=>!x.1) && (backToKw cpos (keywordEach [] X.env)).all (fun x=>x.1.isSome)
 && decide (([e]:List Expr).length+([]:List Keyword).length+(if([]:List Keyword).isEmpty then 0 else 1) < 30))=true:=by rfl) (hsw:swapsWith (.Call (.Attribute (.Name x npos) "append" apos) [e] [] cpos) none pos.line X.env=pure false:=by rfl) (hbase:attributeBase (.Name x npos) "append" X.env (eval (.Name x npos) X.env)=eval (.Name x npos) X.env:=by rfl):DI X (.Expr (.Call (.Attribute (.Name x npos) "append" apos) [e] [] cpos) pos) (n0 i f):=⟨Dx hN hv he.1 hd hcd hs hline hfew hsw hbase⟩
theorem B5(i:Nat){sts:List Stmt}{F:FS}(h:rF X sts F):rF X sts (pA i F):=⟨CY i h.1⟩
theorem bZ{e:Expr}{f:FD}{pos:Pos}(he:QD X e f):DI X (.Return (some e) pos) (er f):=⟨DY he.1⟩
theorem gP{c:Expr}{a b:List Stmt}{fc:ax→R Bool}{F G:FS}{pos:Pos}(hc:QB X c fc)(ha:rF X a F)(hb:rF X b G):DI X (.If c a b pos) (pj fc F G):=⟨EW hc.1 ha.1 hb.1⟩
theorem b_{i:Nat}{x:Str}{pos:Pos}(hN:X.N.Nodup)(hi:X.N[i]? =some x)(hx:Loc X.env.scope x)(hf:X.fn x=true∨X.env.scope.names.lookup x=some .local:=by first | exact .inl rfl | exact .inr rfl | assumption):GW X (.Name x pos) (aY i):=⟨A0 hN hi hx hf⟩
theorem jT:D8 X [] eZ:=⟨An⟩
theorem dC{e:Expr}{es:List Expr}{t:FT}{u:Ac}(h1:GW X e t)(h2:D8 X es u)(hs:(assignEach (e ::es) X.env).map (·.2)=assign e X.env ::(assignEach es X.env).map (·.2):=by rfl):D8 X (e ::es) (b3 t u):=⟨zL h1.1 h2.1 hs⟩
theorem kU{es:List Expr}{k:Nat}{t:Ac}{n:Nat}{pos:Pos}(hc:X.calm=true)(h:D8 X es t)(hn:(assignEach es X.env).length=n:=by rfl)(hst:(assignEach es X.env).findIdx? (·.1)=none:=by rfl):GW X (.Tuple es k pos) (eY n t):=⟨CH hc h.1 hn hst⟩
theorem d7{tg e:Expr}{f:FD}(h:QD X e f):w_ X tg e (fQ f):=⟨C4 h.1⟩
theorem cG{tg a:Expr}{f:FD}{p pos:Pos}(h:QD X a f)(hg:Gl X "range")(hm:X.mg "range"=none)(hs:starEach [a] X.env=[(false,eval a X.env)]:=by rfl):w_ X tg (.Call (.Name "range" p) [a] [] pos) (ee f):=⟨vZ h.1 hg hm hs⟩
theorem jJ{tg iter:Expr}{body:List Stmt}{it:ax→R (List D)}{t:FT}{F:FS}{pos:Pos}(hp:PassesOwn (model X.prog X.w) X.A X.env X.xe)(hc:X.calm=true)(hi:w_ X tg iter it)(hg:GW X tg t)(hb:rF X body F)(hs:∀x,foldedSetIterable iter X.env x=pure x:=by intro _;rfl):DI X (.For tg iter body [] pos) (o9 it t F):=⟨D3 hp hc hi.1 hg.1 hb.1 hs⟩
theorem iO{scope:Scope}{own:List Str}{kp:List Nat}{kn:List Str}{tg iter elt:Expr}{ifs:List Expr}{it:ax→R (List D)}{t:FT}{c:ax→R Bool}{f:FD}{pos:Pos}(hc:X.calm=true)(C:cq X scope own kp kn)(hi:w_ X tg iter it)(hg:∀fp s H,GW (bB X scope (own++kn) fp s H) tg t)(hif:∀fp s H,CB (bB X scope (own++kn) fp s H) ifs c)(he:∀fp s H,QD (bB X scope (own++kn) fp s H) elt f)(hs:∀x,foldedSetIterable iter X.env x=pure x:=by intro _;rfl):QN X (.ListComp elt [⟨tg,iter,ifs,0⟩] scope pos) (gB it t c f own kp):=⟨CD hc C hi.1 (fun fp s H=>(hg fp s H).1) (fun fp s H=>(hif fp s H).1) (fun fp s H=>(he fp s H).1) hs⟩
theorem ix:CB X [] sW:=⟨As⟩
theorem vU{e:Expr}{c:ax→R Bool}(h:QB X e c):CB X [e] c:=⟨C8 h.1⟩
theorem tH{i:Nat}{x:Str}{pos' spos:Pos}{scope:Scope}{own:List Str}{kp:List Nat}{kn:List Str}{tg iter elt:Expr}{ifs:List Expr}{it:ax→R (List D)}{t:FT}{c:ax→R Bool}{f:FD}{pos:Pos}(hc:X.calm=true)(hN:X.N.Nodup)(hx:X.N[i]? =some x)(hxl:X.env.scope.names.lookup x=some .local)(C:cq X scope own kp kn)(hi:w_ X tg iter it)(hg:∀fp s H,GW (bB X scope (own++kn) fp s H) tg t)(hif:∀fp s H,CB (bB X scope (own++kn) fp s H) ifs c)(he:∀fp s H,QD (bB X scope (own++kn) fp s H) elt f)(hsw:swapsWith (.ListComp elt [⟨tg,iter,ifs,0⟩] scope pos) (some (.Name x pos')) spos.line X.env=pure true:=by rfl)(hs:∀x,foldedSetIterable iter X.env x=pure x:=by intro _;rfl):DI X (.Assign [.Name x pos'] (.ListComp elt [⟨tg,iter,ifs,0⟩] scope pos) spos) (ib i (eNew (gB it t c f own kp))):=⟨uP hc hN hx hxl C hi.1 (fun fp s H=>(hg fp s H).1) (fun fp s H=>(hif fp s H).1) (fun fp s H=>(he fp s H).1) hsw hs⟩
theorem aJ{a b:Expr}{fa fb:FD}{pos:Pos}(ha:QD X a fa)(hb:QD X b fb)(hs:pO b):QD X (.Subscript a b pos) (e2 cD fa fb):=⟨Ij ha.1 hb.1 hs⟩
theorem vR:QP X none kB:=⟨DM⟩
theorem nU{e:Expr}{f:FD}(h:QD X e f):QP X (some e) (hW f):=⟨Dn h.1⟩
theorem wM{e:Expr}{lo hi:Option Expr}{f:FD}{fl fh:FO}{p2 pos:Pos}(he:QD X e f)(hl:QP X lo fl)(hh:QP X hi fh):QD X (.Subscript e (.Slice lo hi none p2) pos) (wj f fl fh):=⟨Iq he.1 hl.1 hh.1⟩
theorem lH{elts:List Expr}{k:Nat}{tpos:Pos}{a:Expr}{f:FD}{p pos:Pos}(h:QD X a f)(hg:Gl X "enumerate")(hm:X.mg "enumerate"=none)(hs:starEach [a] X.env=[(false,eval a X.env)]:=by rfl):w_ X (.Tuple elts k tpos) (.Call (.Name "enumerate" p) [a] [] pos) (iZ f):=⟨uW h.1 hg hm hs⟩
theorem cZ{P:Program}{w:World}{K:PySem.W.Frag}{mg:Str→Option Value}{base:Heap}{x qual:Str}{st:Stmt}{f:Addr}{fd:FuncData}{N ps:List Str}{k:Nat}{F:FS}{b:List Stmt}{sc:Scope}(hb:ao st=b)(hs:ag st=sc)(Fn:yq K x qual st f fd)(S:aV N ps sc)(hbody:∀(cdv:Value) (A:Around) (outer:List Env) (s:Shared) (H:Hp) (E:XK),et k (A.deeper (envOfC qual sc s.heap.objs.size f cdv))→
 rF (qP rq P w K mg base N qual sc f cdv A outer s H E).D6 b F):ig P w K mg base rq (k+1) f fd ps (Bw K ps.length (nP N F)):=A2 hb hs Fn S (fun cdv A outer s H E hr=>(hbody cdv A outer s H E hr).1)
theorem bR{g:List D→R D}{k j n:Nat}{x:Str}{p pos:Pos}{e:Expr}{es:List Expr}{fs:ax→R (List D)}(C:Callee X.prog X.w X.K X.mg X.base k x n g)(hr:et j X.A)(hkj:k≤j)(hg:Gl X x)(ha:Cu X (e ::es) fs)(hn:∀δ ds,fs δ= .ok ds→ds.length=n)(hdb:(x==("__debug__":Str))=false:=by decide)(he:starEach (e ::es) X.env=(false,eval e X.env) ::starEach es X.env:=by rfl)(hpl:(backTo pos (starEach es X.env)).any (·.1)=false:=by rfl):QD X (.Call (.Name x p) (e ::es) [] pos) (aP g fs):=⟨A3 C hr hkj hg ha.1 hn hdb he hpl⟩
theorem CQ{keys:List (Option Expr)}{values:List Expr}{trs:List (TE × TE)}{dpos apos cpos:Pos}{e f:Expr}{fe ff:FD}{kvs:List (Key × V)}(hu:X.A.units+1 < cLine)(h:G2 X dpos keys values trs)(hall:keys.all (·.isSome)=true)(hl:keys.length=values.length)(h0:keys≠[])(hc:∀σ H Q,Q (kvs.map fun kv=>(kV kv.1,kv.2)) H→qA trs σ H Q)(hlen:kvs.length≤15)(he:QD X e fe)(hf:QD X f ff)(m:M2 X (.Dict keys values dpos) "get" apos e f cpos)(hd:PE X (.Dict keys values dpos) (BJ trs)):QD X (.Call (.Attribute (.Dict keys values dpos) "get" apos) [e,f] [] cpos) (Fv kvs fe ff):=⟨ED hu h hall hl h0 hc hlen he.1 hf.1 m hd⟩
end
end L2
end
section
set_option maxRecDepth 100000
set_option maxHeartbeats 4000000
namespace L2
open PySem PySem.Spec PyProof.Rows
theorem zh{P:Program}{w:World}{K:PySem.W.Frag}{mg mb:Str→Option Value}{CX:Ax}{k:Nat}{fa a:Addr}{fd:FuncData}{x:Str}{sp:Sp}{s₁:Shared}{vs:List Value}{ns:List Int}
 (KX:K.In s₁.heap) (hns:s₁.heap.Ns mainGlobals mg) (hb:s₁.heap.Ns builtinsNs mb) (hbb:∀x:Str,x≠"__name__"→mb x=bootBuiltins x) (hlim:s₁.heap.NoLimit) (hg:s₁.gens=#[])
 (ha:s₁.heap.get? a=some {cls:= .type "list",data:= .seq vs.toArray}) (hi:IntsAre vs ns) (hl:ns.length≤sizeLine) (hr:et k callerA)
 (F:∀base:Heap,K.In base→base.Ns mainGlobals mg→ig P w K mg base CX k fa fd [x] sp) (hbind:∀(s:Shared) (u:Value),BindsTo s fd ⟨[u],[]⟩ [(x,u)])
 (hsp:∀H:Hp,Ic H→qW K [] H a (ns.map V.int)→sp [.ref a] H (fun v _=>v= .bl true) fun _ _ _=>False)
 (hCX:∀H e s',CX [] H s₁ (fun _ _ _=>False) e s'→False) :
 codeAny (model P w) callerA (.call (.ref fa) ⟨[.ref a],[]⟩) (fun r s'=>r= .ok (.ret (.bool true))∧OldK s₁.heap s'.heap∧s'.os=s₁.os∧AllBare s'.gens) s₁:=by
 have rv:=sC hi
 have lenV:=hi.length
 have core:∀H:Hp,Ic H→qW K [] H a (ns.map V.int)→lX P w H s₁.heap→(∀b,H b≠none→b=a)→(H a≠none→K.lookup a=none)→
  codeAny (model P w) callerA (.call (.ref fa) ⟨[.ref a],[]⟩) (fun r s'=>r= .ok (.ret (.bool true))∧OldK s₁.heap s'.heap∧s'.os=s₁.os∧AllBare s'.gens) s₁:=by
  intro H hO hS hok hA hK
  have base_of:∀{b:Addr} {o:Obj},s₁.heap.get? b=some o→H b=none→(t8 s₁.heap H).get? b=some o:=fun e n=>Cj e n
  have noA:∀{b:Addr} {o:Obj} {es:Array DictEntry} {ep:Nat},s₁.heap.get? b=some o→o.data= .dict es ep→H b=none:=fun {b o es ep} e d=>by
   cases q:H b with
   | none=>rfl
   | some u=>
     have e':b=a:=hA b (by rw[q];simp)
     subst e'
     rw[ha] at e;cases e
     have d':Data.seq vs.toArray _=Data.dict es ep:=d
     cases d'
  have nsK:∀{b:Addr} {m:Str→Option Value},s₁.heap.Ns b m→(t8 s₁.heap H).Ns b m:=fun {b m} ⟨o,es,ep,e,d,r⟩=>⟨o,es,ep,base_of e (noA e d),d,r⟩
  have hKb:K.In (t8 s₁.heap H):=fun b o e=>base_of (KX b o e) (by
   cases q:H b with
   | none=>rfl
   | some u=>
     have e':b=a:=hA b (by rw[q];simp)
     subst e'
     rw[hK (by rw[q];simp)] at e;cases e)
  have hM:Mod K mg (t8 s₁.heap H):=⟨hKb,nsK hns,⟨mb,nsK hb,hbb⟩,let⟨mc,h1,h2⟩:=hlim;⟨mc,nsK h1,h2⟩⟩
  have e0:wu P w K mg (t8 s₁.heap H) callerA [] s₁ H:=⟨rfl,hM,fun b o e=>CK e,Nat.le_of_eq (yP _ _),trivial,fun b hb=>absurd (show b∈([]:List Addr) from hb) (by simp),hok, .of_eq hg⟩
  refine codeAny_mono ((F _ hKb (nsK hns)).run callerA [] s₁ H ⟨[.ref a],[]⟩ [.ref a] [.ref a] _ _ hr e0 (hbind s₁ (.ref a)) (.cons rfl .nil) (hsp H hO hS)) fun r s' h=>?_
  cases r with
  | error e=>exact(hCX H e s' h).elim
  | ok fl=>
    cases fl with
    | next=>exact False.elim h
    | brk=>exact False.elim h
    | cont=>exact False.elim h
    | ret u=>
      obtain⟨v,H',os,bare,un,hok',r',q⟩:=h
      have q':v= .bl true:=q
      subst q'
      obtain rfl:u=Value.bool true:=r'
      refine⟨rfl,OldK.of_keep fun b o e=>?_,os,bare⟩
      cases q:H b with
      | none=>exact un.keep b o e q (by intro z;exact absurd (show b∈([]:List Addr) from z) (by simp)) (by simp)
      | some u=>
        rcases hO b with z | ⟨ob,xs,z⟩
        ·rw[q] at z;cases z
        ·have z2:=un.frzs b ob _ z
         obtain⟨e1,_⟩:=hok b _ z
         obtain⟨e2,_⟩:=hok' b _ z2
         rw[e] at e1;cases e1
         exact e2
 cases hk:K.lookup a with
 | some o=>
   have e:=KX a o hk
   rw[ha] at e
   cases e
   refine core (fun _=>none) (fun _=> .inl rfl) (.inr ⟨vs,_,hk,by rw[List.length_map];exact hl,rv⟩) (fun b u z=>by have z':(none:Option HO)=some u:=z;cases z') (fun b z=>absurd rfl z) fun z=>absurd rfl z
 | none=>
   refine core (fun b=>if b=a then some (.iS {cls:= .type "list",data:= .seq vs.toArray} (.lst (ns.map V.int))) else none) (fun b=>?_) (.inl ⟨by simp, .inr ⟨{cls:= .type "list",data:= .seq vs.toArray},if_pos rfl⟩⟩) (fun b u z=>?_) (fun b z=>?_) fun _=>hk
   ·by_cases hb:b=a
    ·exact .inr ⟨_,_,if_pos hb⟩
    ·exact .inl (if_neg hb)
   ·by_cases hb:b=a
    ·have z':=(if_pos hb).symm.trans z
     cases z'
     subst hb
     exact⟨ha,by rw[List.length_map];exact hl,vs,_,rv,ha⟩
    ·have z':=(if_neg hb).symm.trans z
     cases z'
   ·by_cases hb:b=a
    ·exact hb
    ·exact absurd (if_neg hb) z
theorem ints_rep{K:PySem.W.Frag}{B:List Addr}{H:Hp}:∀ns:List Int,aH K B H (ns.map D.int) (ns.map V.int)
 | []=>aH.nil
 | n ::ns=>aH.cons (Rep.int.mpr rfl) (ints_rep ns)
theorem Iw{l:PySem.W.OpenLaw}{n k:Nat}{q:Program}{loose:List Str}{XP:(Str→Option Value)→Heap→Prop}{YP:World→Heap→Prop}{d:DefRec}{K:Params→PySem.W.Frag}{x:Str}{g:List D→R D}
 (hn:l.most=some n) (hn2:n≤sizeLine) (hdf:d.params.defaults=[]) (hr:et k callerA) (hY:∀(w:World) (h:Heap),YP w h→(K w.params).In h)
 (F:∀(w:World) (mg:Str→Option Value) (fa:Addr) (h:Heap),(K w.params).In h→h.Ns mainGlobals mg→mg d.name=some (.ref fa)→
   ∃fd:FuncData,(∀(s:Shared) (u:Value),BindsTo s fd ⟨[u],[]⟩ [(x,u)])∧∀base:Heap,(K w.params).In base→base.Ns mainGlobals mg→ig l.prog w (K w.params) mg base rq k fa fd [x] (Bw (K w.params) 1 g))
 (hg:∀ns:List Int,ns.length≤n→g [.lst (ns.map D.int)]= .ok (.bl true)):PySem.W.WalkO q loose XP YP l.row.toRowW d [] (fun f vs=>PySem.call f vs):=by
 refine Att.vB hn hdf fun w s₀ s₁ mg mb fa o pm cd doc a vs ns G Y ho hd hcd hmg hobj hints hlen hgen=>?_
 have KX:=hY w _ Y
 obtain⟨fd,hb,hF⟩:=F w mg fa _ KX G.T.g hmg
 refine zh KX G.T.g G.T.b G.T.builtins G.T.nolimit hgen hobj hints (Nat.le_trans hlen hn2) hr hF hb (fun H hO hS=>?_) fun H e s' h=>h
 refine⟨rfl,[],[.lst (ns.map D.int)], .bl true,fun b hb=>(by cases hb),aH.cons (Rep.lst.mpr ⟨_,_,rfl,hS,ints_rep ns⟩) aH.nil,hg ns hlen,fun z H' _ r=>Rep.bl.mp r⟩
theorem cy{K:PySem.W.Frag}{h:Heap}{mg:Str→Option Value}{x:Str}{st:Stmt}{f:Addr}{oc:Value}{od an:Option Addr}{osl:Array (Option Value)}{kV doc pm cdv ct:Value}(X:K.In h)(G:h.Ns mainGlobals mg)(a:PySem.W.nsIn K mainGlobals x=some (some (.ref f)))
 (l:K.lookup f=some ⟨oc,od, .func (PySem.W.fnOf x x (fD st) (ao st) (ag st) .none kV doc pm an cdv ct),osl⟩) (c:PySem.W.codeIn K cdv x=true) (k:PySem.W.keepIn K (.ref f)=true):Def K mg x st:=
 ⟨f,_,lB l c k,PySem.W.mg_of X G a⟩
end L2
end
section
set_option maxRecDepth 100000
set_option maxHeartbeats 4000000
namespace L2
open PySem PySem.Spec PyProof.Rows
theorem pS{t:FT}{body:FS}:∀(ds:List D) (n:Nat) (P:Nat→ax→Prop) {δ:ax},P n δ→
 (∀i d δ,ds[i]? =some d→P (n+i) δ→∃δ',((t d δ).bind body)= .ok (.nx δ')∧P (n+i+1) δ')→∃δ',l6 t body ds δ= .ok (.nx δ')∧P (n+ds.length) δ'
 | [],n,P,δ,h0,_=>⟨δ,rfl,h0⟩
 | d ::ds,n,P,δ,h0,hs=>by
   obtain⟨δ1,e1,p1⟩:=hs 0 d δ rfl h0
   obtain⟨δ2,e2,p2⟩:=pS ds (n+1) P p1 (fun i d' δ' hi hp=>by
    have:=hs (i+1) d' δ' (by simpa using hi) (by rw[show n+(i+1)=n+1+i by omega];exact hp)
    rw[show n+(i+1)+1=n+1+i+1 by omega] at this
    exact this)
   refine⟨δ2,?_,by rw[List.length_cons,show n+(ds.length+1)=n+1+ds.length by omega];exact p2⟩
   obtain⟨δ0,h1,h2⟩:=R.aq e1
   show(t d δ).bind (fun δ1=>(body δ1).bind fun o=>match o with | .nx δ2=>l6 t body ds δ2 | .rt r=> .ok (.rt r))=_
   rw[h1,R.aM,h2,R.aM]
   exact e2
theorem jH{t:FT}{body:FS}{ds:List D}(P:Nat→ax→Prop){δ:ax}(h0:P 0 δ)
 (hs:∀i d δ,ds[i]? =some d→P i δ→∃δ',((t d δ).bind body)= .ok (.nx δ')∧P (i+1) δ'):∃δ',l6 t body ds δ= .ok (.nx δ')∧P ds.length δ':=by
 have:=pS (t:=t) (body:=body) ds 0 P h0 (fun i d δ hi hp=>by simpa using hs i d δ hi (by simpa using hp))
 simpa using this
theorem B7{α:Type} [DecidableEq α]:∀(L F:List α),L.Nodup→(∀x∈L,x∈F)→L.length≤F.length
 | [],_,_,_=>Nat.zero_le _
 | x ::L,F,hn,hs=>by
   obtain⟨h1,h2⟩:=List.nodup_cons.mp hn
   have hx:x∈F:=hs x List.mem_cons_self
   have ih:=B7 L (F.erase x) h2 (fun y hy=>(List.mem_erase_of_ne (fun(e:y=x)=>h1 (by rw[←e];exact hy))).mpr (hs y (List.mem_cons_of_mem _ hy)))
   rw[List.length_erase_of_mem hx] at ih
   have:0 < F.length:=List.length_pos_of_mem hx
   rw[List.length_cons]
   omega
theorem i3{α:Type}{xs:List α}{i:Int}(h0:0≤i)(h:i.toNat < xs.length):o_ xs i=some xs[i.toNat]:=by
 unfold o_ qa
 rw[if_pos h0,if_pos (by omega)]
 simp [h]
theorem strs_map:∀ss:List Str,strs? (ss.map D.str)=some ss
 | []=>rfl
 | s ::ss=>by show(strs? (ss.map D.str)).map (s ::·)=_;rw [strs_map ss];rfl
theorem ints_map:∀ss:List Int,ints? (ss.map D.int)=some ss
 | []=>rfl
 | s ::ss=>by show(ints? (ss.map D.int)).map (s ::·)=_;rw [ints_map ss];rfl
theorem Dq{a b:Str}(h:a.cps.toList=b.cps.toList):a=b:=by
 obtain⟨a⟩:=a;obtain⟨b⟩:=b
 congr 1
 exact Array.toList_inj.mp h
theorem pM(a b:Str):(a++b).cps.toList=a.cps.toList++b.cps.toList:=by
 show(a.cps++b.cps).toList=_
 simp
theorem bK{F G:FS}{δ δ1:ax}{r:R Out}(h:F δ= .ok (.nx δ1))(h2:G δ1=r):el F G δ=r:=by unfold el;rw [h,R.aM];exact h2
theorem gb{f:ax→R (List D)}{δ:ax}{ds:List D}(h:f δ= .ok ds):eNew f δ= .ok (.lst ds):=by unfold eNew;rw [h];rfl
theorem lV{c:ax→R Bool}{F G:FS}{δ:ax}{r:R Out}(h:c δ= .ok true)(h2:F δ=r):pj c F G δ=r:=by unfold pj;rw [h,R.aM,if_pos rfl];exact h2
theorem gA{c:ax→R Bool}{F G:FS}{δ:ax}{r:R Out}(h:c δ= .ok false)(h2:G δ=r):pj c F G δ=r:=by unfold pj;rw [h,R.aM,if_neg (by decide)];exact h2
theorem mY{it:ax→R (List D)}{t:FT}{F:FS}{δ:ax}{ds:List D}{r:R Out}(h:it δ= .ok ds)(h2:l6 t F ds δ=r):o9 it t F δ=r:=by unfold o9;rw [h,R.aM];exact h2
theorem cB{f:FD}{δ:ax}{d:D}(h:f δ= .ok d):er f δ= .ok (.rt d):=by unfold er;rw [h];rfl
theorem c7{N:List Str}{F:FS}{ds:List D}{d:D}(h:F (cJ N ds)= .ok (.rt d)):nP N F ds= .ok d:=by unfold nP;rw [h];rfl
theorem bU{α:Type}{p:Prop} [Decidable p](r:R α)(h:p):R.cc (decide p) r=r:=by rw[decide_eq_true h];rfl
theorem hX{i:Nat}{f:FD}{δ:ax}{d:D}(h:f δ= .ok d)(hi:i < δ.length):ib i f δ= .ok (.nx (δ.set i (.val d))):=by unfold ib;rw [h,R.aM,bU _ hi]
theorem D4{i:Nat}{f:ax→R (List D)}{δ:ax}{ds:List D}(h:f δ= .ok ds)(hi:i < δ.length):nc i f δ= .ok (.nx (δ.set i (.bld ds))):=by unfold nc;rw [h,R.aM,bU _ hi]
theorem DN{i:Nat}{f:FD}{δ:ax}{d:D}{ds:List D}(h:f δ= .ok d)(hb:δ[i]? =some (.bld ds))(hl:ds.length < sizeLine):n0 i f δ= .ok (.nx (δ.set i (.bld (ds++[d])))):=by unfold n0 ji;rw [h,R.aM,hb];show R.cc _ _=_;rw [bU _ hl]
theorem gR{it:ax→R (List D)}{t:FT}{c:ax→R Bool}{f:FD}{own:List Str}{kp:List Nat}{δ:ax}{ds ys:List D}(h1:it δ= .ok ds)(h2:ds.length≤sizeLine)(h3:nq t c f (qJ own kp δ) ds= .ok ys):gB it t c f own kp δ= .ok ys:=by unfold gB;rw [h1,R.aM,bU _ h2,h3]
theorem jB{ds:List D}{i:Int}{d:D}(h:o_ ds i=some d):cD (.lst ds) (.int i)= .ok d:=by unfold cD;simp only[h]
theorem sU{ds:List D}{i:Int}{d:D}(h:o_ ds i=some d):cD (.tup ds) (.int i)= .ok d:=by unfold cD;simp only[h]
theorem AI{x:Str}{i:Int}{c:Nat}(hz:x.length≤sizeLine)(h:o_ x.cps.toList i=some c):cD (.str x) (.int i)= .ok (.str ⟨#[c]⟩):=by unfold cD;simp only[h,bU _ hz]
end L2
end
section
set_option maxRecDepth 100000
namespace L2
open PySem PySem.Spec PyProof.Rows
theorem aD{g:D→D→R D}{fa fb:FD}{δ:ax}{a b:D}{r:R D}(ha:fa δ= .ok a)(hb:fb δ= .ok b)(h:g a b=r):e2 g fa fb δ=r:=by unfold e2;rw [ha,R.aM,hb,R.aM];exact h
theorem fk{g:D→D→R D}{fa fb:FD}{δ:ax}{a b:D}{k:Bool}(ha:fa δ= .ok a)(hb:fb δ= .ok b)(h:g a b= .ok (.bl k)):b2 g fa fb δ= .ok k:=by unfold b2;rw [aD ha hb h];rfl
theorem aQ{f:FD}{g:ax→R (List D)}{δ:ax}{d:D}{ds:List D}(h:f δ= .ok d)(h2:g δ= .ok ds):au f g δ= .ok (d ::ds):=by unfold au;rw [h,R.aM,h2];rfl
theorem aT{g:List D→R D}{fs:ax→R (List D)}{δ:ax}{ds:List D}{r:R D}(h:fs δ= .ok ds)(h2:g ds=r):aP g fs δ=r:=by unfold aP;rw [h,R.aM];exact h2
theorem eh{g:ax→R (List D)}{δ:ax}{ds:List D}(h:g δ= .ok ds)(hl:ds.length≤sizeLine):dU g δ= .ok (.tup ds):=by unfold dU;rw [h,R.aM,bU _ hl]
theorem pJ{g:ax→R (List D)}{δ:ax}{ds:List D}(h:g δ= .ok ds)(hl:ds.length≤sizeLine):dA g δ= .ok ds:=by unfold dA;rw [h,R.aM,bU _ hl]
theorem C3{g:D→List D→R D}{f:FD}{fs:ax→R (List D)}{δ:ax}{x:Str}{ds:List D}{r:R D}(h:f δ= .ok (.str x))(h2:fs δ= .ok ds)(h3:g (.str x) ds=r):sf "str" g f fs δ=r:=by
 unfold sf;rw [h,R.aM,h2,R.aM];exact h3
theorem xl{f:FD}{fl fh:FO}{δ:ax}{d:D}{lo hi:Option Int}{r:R D}(h:f δ= .ok d)(h1:fl δ= .ok lo)(h2:fh δ= .ok hi)(h3:FK d lo hi=r):wj f fl fh δ=r:=by unfold wj;rw [h,R.aM,h1,R.aM,h2,R.aM];exact h3
theorem AV{f:FD}{δ:ax}{i:Int}(h:f δ= .ok (.int i)):hW f δ= .ok (some i):=by unfold hW;rw [h];rfl
theorem GQ{x:Str}{lo hi:Option Int}(h:x.length≤sizeLine):FK (.str x) lo hi= .ok (.str (Txt.slice x lo hi)):=by unfold FK;exact bU _ h
theorem x4{a b:Str}(h:a.length+b.length≤sizeLine):e_ (.str a) (.str b)= .ok (.str (a++b)):=by unfold e_;exact bU _ h
theorem t9{a b:List D}(h:a.length+b.length≤sizeLine):e_ (.lst a) (.lst b)= .ok (.lst (a++b)):=by unfold e_;exact bU _ h
theorem wO{a b:Int}(h:0 < b):jo (.int a) (.int b)= .ok (.int (a % b)):=by unfold jo vM;exact bU _ h
theorem gq{f:FD}{δ:ax}{n:Nat}(h:f δ= .ok (.int n))(hn:n < 1000000):ee f δ= .ok (cH 0 n):=by
 unfold ee;rw [h,R.aM];show R.cc (decide (-(2 ^ 62)≤(n:Int)∧(n:Int) < 2 ^ 62)) _=_
 rw[bU _ ⟨by omega,by omega⟩,Int.toNat_natCast]
theorem pT{f:FD}{δ:ax}{ds:List D}(h:f δ= .ok (.lst ds)):fQ f δ= .ok ds:=by unfold fQ;rw [h];rfl
theorem Fm{f:FD}{δ:ax}{ds:List D}(h:f δ= .ok (.tup ds)):fQ f δ= .ok ds:=by unfold fQ;rw [h];rfl
theorem BQ{f:FD}{δ:ax}{ds:List D}(h:f δ= .ok (.lst ds)):iZ f δ= .ok (di ds):=by unfold iZ;rw [h];rfl
theorem kL(ds:List D):cP [.lst ds]= .ok (.int ds.length):=rfl
end L2
end
section
set_option maxRecDepth 100000
set_option maxHeartbeats 4000000
namespace L3
open PySem PySem.Spec PyProof.Rows L2
inductive V3 where
 | d (x:D) | loc (k:Nat) | lst (vs:List V3) | tup (vs:List V3)
inductive SO where
 | lst (ds:List D) | dct (kvs:List (Key × D)) | ins (c:Nat) (fs:List (Str × V3)) | iS
noncomputable abbrev aN:=List SO
inductive R3 (α:Type) where
 | ok (a:α) (S:aN) | ex (c:Nat) (S:aN) | no
noncomputable def R3.bind{α β:Type}:R3 α→(α→aN→R3 β)→R3 β
 | .ok a S,f=>f a S
 | .ex c S,_=> .ex c S
 | .no,_=> .no
theorem R3.aq{α β:Type}{r:R3 α}{f:α→aN→R3 β}{b:β}{S':aN}(h:r.bind f= .ok b S'):∃a S,r= .ok a S∧f a S= .ok b S':=by
 cases r with
 | ok a S=>exact⟨a,S,rfl,h⟩
 | ex c S=>cases h
 | no=>cases h
@[simp] theorem R3.aM{α β:Type}(a:α)(S:aN)(f:α→aN→R3 β):(R3.ok a S).bind f=f a S:=rfl
noncomputable def R3.cc{α:Type}(c:Bool)(r:R3 α):R3 α:=if c then r else .no
theorem R3.br{α:Type}{c:Bool}{r:R3 α}{a:α}{S:aN}(h:R3.cc c r= .ok a S):c=true∧r= .ok a S:=by
 cases c with
 | true=>exact⟨rfl,h⟩
 | false=>cases h
noncomputable def R3.of{α:Type}(r:R α)(S:aN):R3 α:=match r with | .ok a=> .ok a S | _=> .no
theorem R3.of_ok{α:Type}{r:R α}{S S':aN}{a:α}(h:R3.of r S= .ok a S'):r= .ok a∧S'=S:=by
 cases r with
 | ok b=>cases h;exact⟨rfl,rfl⟩
 | ex c=>cases h
 | no=>cases h
structure P3 where
 r:List Addr
 z:List Addr
 f:List Addr
noncomputable def P3.b(ρ:P3):List Addr:=ρ.r.filter (fun a=>!ρ.f.contains a)++ρ.z
theorem P3.dP{ρ:P3}{a:Addr}:a∈ρ.b↔(a∈ρ.r∧a ∉ ρ.f)∨a∈ρ.z:=by
 unfold P3.b
 rw[List.mem_append,List.mem_filter]
 simp
noncomputable def P3.push(ρ:P3)(a:Addr):P3:=⟨ρ.r++[a],ρ.z,ρ.f⟩
noncomputable def P3.cut(ρ:P3)(n:Nat):P3:=⟨ρ.r.take n,ρ.z,ρ.f⟩
mutual
noncomputable def bh(K:PySem.W.Frag)(ρ:P3)(H:Hp):V3→V→Prop
 | .d x,v=>Rep K ρ.b H x v
 | .loc k,v=>∃a,ρ.r[k]? =some a∧v= .ref a
 | .lst vs,v=>∃a xs,v= .ref a∧qW K ρ.b H a xs∧aG K ρ H vs xs
 | .tup vs,v=>∃a xs,v= .ref a∧sL K ρ.b H a xs∧aG K ρ H vs xs
noncomputable def aG(K:PySem.W.Frag)(ρ:P3)(H:Hp):List V3→List V→Prop
 | [],xs=>xs=[]
 | d ::ds,xs=>∃x r,xs=x ::r∧bh K ρ H d x∧aG K ρ H ds r
end
structure Pre (ρ:P3) (H:Hp) (ρ':P3) (H':Hp):Prop where
 bq:dE ρ.b H ρ'.b H'
 zz:ρ'.z=ρ.z
 zs:∀(b:Addr) (o:HO),b∈ρ.z→H b=some o→H' b=some o
 ext:∀(k:Nat) (a:Addr),ρ.r[k]? =some a→ρ'.r[k]? =some a
theorem Pre.refl(ρ:P3)(H:Hp):Pre ρ H ρ H:=⟨dE.refl ρ.b H,rfl,fun _ _ _ h=>h,fun _ _ h=>h⟩
theorem Pre.trans{ρ ρ' ρ'':P3}{H H' H'':Hp}(a:Pre ρ H ρ' H')(b:Pre ρ' H' ρ'' H''):Pre ρ H ρ'' H'':=⟨a.bq.trans b.bq,b.zz.trans a.zz,fun c o hc h=>b.zs c o (by rw[a.zz];exact hc) (a.zs c o hc h),fun k x h=>b.ext k x (a.ext k x h)⟩
theorem Pre.same{ρ:P3}{H H':Hp}(s:aU H H'):Pre ρ H ρ H':=⟨dE.same s,rfl,fun b o _ h=>s b o h,fun _ _ h=>h⟩
theorem sL.bq{K:PySem.W.Frag}{B B':List Addr}{H H':Hp}(p:dE B H B' H'){a:Addr}{xs:List V}(l:sL K B H a xs):sL K B' H' a xs:=
 l.elim (fun z=> .inl ⟨(p.rd z.2 z.1).2,(p.rd z.2 z.1).1⟩) .inr
mutual
theorem bh.pre{K:PySem.W.Frag}{ρ ρ':P3}{H H':Hp}(p:Pre ρ H ρ' H'):∀{d:V3} {v:V},bh K ρ H d v→bh K ρ' H' d v
 | .d x,v,h=>by unfold bh at h ⊢;exact h.bq p.bq
 | .loc k,v,h=>by unfold bh at h ⊢;obtain⟨a,h1,h2⟩:=h;exact⟨a,p.ext k a h1,h2⟩
 | .lst vs,v,h=>by unfold bh at h ⊢;obtain⟨a,xs,e,l,r⟩:=h;exact⟨a,xs,e,l.bq p.bq,aG.pre p r⟩
 | .tup vs,v,h=>by unfold bh at h ⊢;obtain⟨a,xs,e,l,r⟩:=h;exact⟨a,xs,e,sL.bq p.bq l,aG.pre p r⟩
theorem aG.pre{K:PySem.W.Frag}{ρ ρ':P3}{H H':Hp}(p:Pre ρ H ρ' H'):∀{ds:List V3} {xs:List V},aG K ρ H ds xs→aG K ρ' H' ds xs
 | [],_,h=>by unfold aG at h ⊢;exact h
 | d ::ds,xs,h=>by
   unfold aG at h ⊢
   obtain⟨x,r,e,h1,h2⟩:=h
   exact⟨x,r,e,bh.pre p h1,aG.pre p h2⟩
end
structure PW (ρ:P3) (H:Hp) (ρ':P3) (H':Hp):Prop where
 bq:dE ρ.b H ρ'.b H'
 ext:∀(k:Nat) (a:Addr),ρ.r[k]? =some a→ρ'.r[k]? =some a
theorem Pre.pw{ρ ρ':P3}{H H':Hp}(p:Pre ρ H ρ' H'):PW ρ H ρ' H':=⟨p.bq,p.ext⟩
theorem PW.trans{ρ ρ' ρ'':P3}{H H' H'':Hp}(a:PW ρ H ρ' H')(b:PW ρ' H' ρ'' H''):PW ρ H ρ'' H'':=⟨a.bq.trans b.bq,fun k x h=>b.ext k x (a.ext k x h)⟩
mutual
theorem bh.pw{K:PySem.W.Frag}{ρ ρ':P3}{H H':Hp}(p:PW ρ H ρ' H'):∀{d:V3} {v:V},bh K ρ H d v→bh K ρ' H' d v
 | .d x,v,h=>by unfold bh at h ⊢;exact h.bq p.bq
 | .loc k,v,h=>by unfold bh at h ⊢;obtain⟨a,h1,h2⟩:=h;exact⟨a,p.ext k a h1,h2⟩
 | .lst vs,v,h=>by unfold bh at h ⊢;obtain⟨a,xs,e,l,r⟩:=h;exact⟨a,xs,e,l.bq p.bq,aG.pw p r⟩
 | .tup vs,v,h=>by unfold bh at h ⊢;obtain⟨a,xs,e,l,r⟩:=h;exact⟨a,xs,e,sL.bq p.bq l,aG.pw p r⟩
theorem aG.pw{K:PySem.W.Frag}{ρ ρ':P3}{H H':Hp}(p:PW ρ H ρ' H'):∀{ds:List V3} {xs:List V},aG K ρ H ds xs→aG K ρ' H' ds xs
 | [],_,h=>by unfold aG at h ⊢;exact h
 | d ::ds,xs,h=>by
   unfold aG at h ⊢
   obtain⟨x,r,e,h1,h2⟩:=h
   exact⟨x,r,e,bh.pw p h1,aG.pw p h2⟩
end
theorem aG.nil{K:PySem.W.Frag}{ρ:P3}{H:Hp}:aG K ρ H [] []:=by unfold aG;rfl
theorem aG.cons{K:PySem.W.Frag}{ρ:P3}{H:Hp}{d:V3}{ds:List V3}{x:V}{xs:List V}(h:bh K ρ H d x)(t:aG K ρ H ds xs):aG K ρ H (d ::ds) (x ::xs):=by
 unfold aG;exact⟨x,xs,rfl,h,t⟩
theorem aG.cC{K:PySem.W.Frag}{ρ:P3}{H:Hp}{d:V3}{ds:List V3}{xs:List V}(h:aG K ρ H (d ::ds) xs):∃x r,xs=x ::r∧bh K ρ H d x∧aG K ρ H ds r:=by
 unfold aG at h;exact h
theorem aG.length{K:PySem.W.Frag}{ρ:P3}{H:Hp}:∀{ds:List V3} {xs:List V},aG K ρ H ds xs→ds.length=xs.length
 | [],_,h=>by unfold aG at h;rw [h];rfl
 | d ::ds,xs,h=>by
   obtain⟨x,r,rfl,_,h2⟩:=h.cC
   simp [h2.length]
theorem aG.of{K:PySem.W.Frag}{ρ:P3}{H:Hp}:∀{ds:List D} {xs:List V},aH K ρ.b H ds xs→aG K ρ H (ds.map .d) xs
 | [],_,h=>by unfold aH at h;subst h;exact aG.nil
 | d ::ds,xs,h=>by
   obtain⟨x,r,rfl,h1,h2⟩:=h.cC
   exact aG.cons (by unfold bh;exact h1) (aG.of h2)
theorem aG.to{K:PySem.W.Frag}{ρ:P3}{H:Hp}:∀{ds:List D} {xs:List V},aG K ρ H (ds.map .d) xs→aH K ρ.b H ds xs
 | [],_,h=>by unfold aG at h;subst h;exact aH.nil
 | d ::ds,xs,h=>by
   obtain⟨x,r,rfl,h1,h2⟩:=aG.cC h
   unfold bh at h1
   exact aH.cons h1 (aG.to h2)
noncomputable def AZ(K:PySem.W.Frag)(cl:Nat→Addr)(ρ:P3)(H:Hp):SO→Option HO→Prop
 | .lst ds,h=>∃xs,h=some (.lst xs)∧aH K ρ.b H ds xs
 | .dct kvs,h=>∃ys,h=some (.dK ys)∧ys.map (·.1)=kvs.map (·.1)∧aH K ρ.b H (kvs.map (·.2)) (ys.map (·.2))
 | .ins c fs,h=>∃dx ys,h=some (.ins (cl c) dx ys)∧ys.map (·.1)=fs.map (·.1)∧aG K ρ H (fs.map (·.2)) (ys.map (·.2))
 | .iS,h=>∃u,h=some u
theorem AZ.pre{K:PySem.W.Frag}{cl:Nat→Addr}{ρ ρ':P3}{H H':Hp}(p:Pre ρ H ρ' H'){o:SO}{h:Option HO}(r:AZ K cl ρ H o h):AZ K cl ρ' H' o h:=by
 cases o with
 | lst ds=>obtain⟨xs,e,q⟩:=r;exact⟨xs,e,q.bq p.bq⟩
 | dct kvs=>obtain⟨ys,e,e2,q⟩:=r;exact⟨ys,e,e2,q.bq p.bq⟩
 | ins c fs=>obtain⟨dx,ys,e,e2,q⟩:=r;exact⟨dx,ys,e,e2,q.pre p⟩
 | iS=>exact r
theorem AZ.pw{K:PySem.W.Frag}{cl:Nat→Addr}{ρ ρ':P3}{H H':Hp}(p:PW ρ H ρ' H'){o:SO}{h:Option HO}(r:AZ K cl ρ H o h):AZ K cl ρ' H' o h:=by
 cases o with
 | lst ds=>obtain⟨xs,e,q⟩:=r;exact⟨xs,e,q.bq p.bq⟩
 | dct kvs=>obtain⟨ys,e,e2,q⟩:=r;exact⟨ys,e,e2,q.bq p.bq⟩
 | ins c fs=>obtain⟨dx,ys,e,e2,q⟩:=r;exact⟨dx,ys,e,e2,q.pw p⟩
 | iS=>exact r
theorem AZ.some{K:PySem.W.Frag}{cl:Nat→Addr}{ρ:P3}{H:Hp}{o:SO}{h:Option HO}(r:AZ K cl ρ H o h):∃u,h=some u:=by
 cases o with
 | lst ds=>obtain⟨xs,e,q⟩:=r;exact⟨_,e⟩
 | dct kvs=>obtain⟨ys,e,e2,q⟩:=r;exact⟨_,e⟩
 | ins c fs=>obtain⟨dx,ys,e,e2,q⟩:=r;exact⟨_,e⟩
 | iS=>exact r
structure SW (K:PySem.W.Frag) (cl:Nat→Addr) (ρ:P3) (H:Hp) (S:aN):Prop where
 len:ρ.r.length=S.length
 nd:∀(i j:Nat) (a:Addr),ρ.r[i]? =some a→ρ.r[j]? =some a→i=j
 ob:∀(k:Nat) (a:Addr) (o:SO),ρ.r[k]? =some a→S[k]? =some o→AZ K cl ρ H o (H a)
 zb:∀b∈ρ.z,(∃xs,H b=some (.lst xs))∧b ∉ ρ.r
 fz:∀(k:Nat) (a:Addr),ρ.r[k]? =some a→S[k]?≠some .iS→a ∉ ρ.f
 ff:∀a∈ρ.f,∃o,H a=some o
 fi:∀(k:Nat) (a:Addr),ρ.r[k]? =some a→S[k]? =some .iS→a∈ρ.f
theorem SW.rs{K:PySem.W.Frag}{cl:Nat→Addr}{ρ:P3}{H:Hp}{S:aN}(w:SW K cl ρ H S):∀a∈ρ.r,∃o,H a=some o:=fun a z=>by
 obtain⟨k,hk⟩:=List.getElem?_of_mem z
 have hl:=(List.getElem?_eq_some_iff.mp hk).1
 exact(w.ob k a _ hk (List.getElem?_eq_getElem (by rw[←w.len];exact hl))).some
theorem SW.bs{K:PySem.W.Frag}{cl:Nat→Addr}{ρ:P3}{H:Hp}{S:aN}(w:SW K cl ρ H S):∀a∈ρ.b,∃o,H a=some o:=fun a ha=>by
 rcases P3.dP.mp ha with z | z
 ·exact w.rs a z.1
 ·obtain⟨xs,h⟩:=(w.zb a z).1
  exact⟨_,h⟩
theorem SW.same{K:PySem.W.Frag}{cl:Nat→Addr}{ρ:P3}{H H':Hp}{S:aN}(w:SW K cl ρ H S)(s:aU H H'):SW K cl ρ H' S:=
 ⟨w.len,w.nd,fun k a o h1 h2=>by
   have r:=w.ob k a o h1 h2
   obtain⟨u,hu⟩:=r.some
   rw[s a u hu,←hu]
   exact r.pre (Pre.same s),fun b hb=>let⟨⟨o,ho⟩,n⟩:=w.zb b hb;⟨⟨o,s b _ ho⟩,n⟩,w.fz,fun a ha=>let⟨o,ho⟩:=w.ff a ha;⟨o,s a o ho⟩,w.fi⟩
theorem P3.mem_push{ρ:P3}{a b:Addr}(h:b∈(ρ.push a).b):b∈ρ.b∨b=a:=by
 rcases P3.dP.mp h with⟨z,n⟩ | z
 ·rcases List.mem_append.mp z with y | y
  ·exact .inl (P3.dP.mpr (.inl ⟨y,n⟩))
  ·exact .inr (List.mem_singleton.mp y)
 ·exact .inl (P3.dP.mpr (.inr z))
theorem SW.new{K:PySem.W.Frag}{cl:Nat→Addr}{ρ:P3}{H H':Hp}{S:aN}(w:SW K cl ρ H S){a:Addr}{o:SO}(s:aU H H')(n:H a=none)(r:AZ K cl (ρ.push a) H' o (H' a))(hne:o≠SO.iS:=by intro h;cases h) :
 SW K cl (ρ.push a) H' (S++[o])∧Pre ρ H (ρ.push a) H':=by
 have na:a ∉ ρ.b:=fun ha=>by obtain⟨o,ho⟩:=w.bs a ha;rw [n] at ho;cases ho
 have nr:a ∉ ρ.r:=fun ha=>by obtain⟨o,ho⟩:=w.rs a ha;rw [n] at ho;cases ho
 have nf:a ∉ ρ.f:=fun ha=>by obtain⟨o,ho⟩:=w.ff a ha;rw [n] at ho;cases ho
 have p:Pre ρ H (ρ.push a) H':=⟨fun b u e nb=>⟨s b u e,fun hb=>by
  rcases P3.mem_push hb with z | z
  ·exact nb z
  ·subst z;rw [n] at e;cases e⟩,rfl,fun b o _ h=>s b o h,fun k x hx=>by
   show(ρ.r++[a])[k]? =_
   rw[List.getElem?_append_left (List.getElem?_eq_some_iff.mp hx).1];exact hx⟩
 have last:∀(i:Nat) (b:Addr),(ρ.push a).r[i]? =some b→(i < ρ.r.length∧ρ.r[i]? =some b)∨(i=ρ.r.length∧b=a):=fun i b h=>by
  have h:(ρ.r++[a])[i]? =some b:=h
  by_cases q:i < ρ.r.length
  ·rw[List.getElem?_append_left q] at h;exact .inl ⟨q,h⟩
  ·rw[List.getElem?_append_right (by omega)] at h
   have h0:i - ρ.r.length=0:=by
    have:=(List.getElem?_eq_some_iff.mp h).1
    simp at this;omega
   rw[h0] at h
   cases h
   exact .inr ⟨by omega,rfl⟩
 refine⟨⟨by show(ρ.r++[a]).length=_;rw [List.length_append,List.length_append,w.len];rfl,fun i j b hi hj=>?_,fun k b u hk hu=>?_,fun b hb=>?_,fun k b hk hu=>?_,fun b hb=>?_,fun k b hk hu=>?_⟩,p⟩
 ·rcases last i b hi with⟨q1,q2⟩ | ⟨q1,rfl⟩
  ·rcases last j b hj with⟨z1,z2⟩ | ⟨z1,rfl⟩
   ·exact w.nd i j b q2 z2
   ·exact absurd (List.mem_of_getElem? q2) nr
  ·rcases last j b hj with⟨z1,z2⟩ | ⟨z1,z3⟩
   ·exact absurd (List.mem_of_getElem? z2) nr
   ·omega
 ·rcases last k b hk with⟨q1,q2⟩ | ⟨q1,rfl⟩
  ·rw[List.getElem?_append_left (by rw[←w.len];exact q1)] at hu
   have r0:=w.ob k b u q2 hu
   obtain⟨x,hx⟩:=r0.some
   rw[s b x hx,←hx]
   exact r0.pre p
  ·rw[List.getElem?_append_right (by rw[←w.len];omega),q1,w.len,Nat.sub_self] at hu
   cases hu
   exact r
 ·obtain⟨⟨o,ho⟩,nb⟩:=w.zb b hb
  refine⟨⟨o,s b _ ho⟩,fun h=>?_⟩
  rcases List.mem_append.mp h with y | y
  ·exact nb y
  ·rw[List.mem_singleton] at y;subst y;rw [n] at ho;cases ho
 ·rcases last k b hk with⟨q1,q2⟩ | ⟨q1,rfl⟩
  ·rw[List.getElem?_append_left (by rw[←w.len];exact q1)] at hu
   exact w.fz k b q2 hu
  ·exact nf
 ·obtain⟨o,ho⟩:=w.ff b hb
  exact⟨o,s b o ho⟩
 ·rcases last k b hk with⟨q1,q2⟩ | ⟨q1,rfl⟩
  ·rw[List.getElem?_append_left (by rw[←w.len];exact q1)] at hu
   exact w.fi k b q2 hu
  ·rw[List.getElem?_append_right (by rw[←w.len];omega),q1,w.len,Nat.sub_self] at hu
   cases hu
   exact absurd rfl hne
theorem SW.put{K:PySem.W.Frag}{cl:Nat→Addr}{ρ:P3}{H:Hp}{S:aN}(w:SW K cl ρ H S){k:Nat}{a:Addr}{o:SO}{u:HO}(hk:ρ.r[k]? =some a)(hf:a ∉ ρ.f)(r:AZ K cl ρ H o (some u))(hne:o≠SO.iS:=by intro h;cases h) :
 SW K cl ρ (upd H a u) (S.set k o)∧Pre ρ H ρ (upd H a u):=by
 have ha:a∈ρ.r:=List.mem_of_getElem? hk
 have hb:a∈ρ.b:=P3.dP.mpr (.inl ⟨ha,hf⟩)
 have nz:∀b∈ρ.z,b≠a:=fun b hb z=>(w.zb b hb).2 (by rw[z];exact ha)
 have p:Pre ρ H ρ (upd H a u):=⟨fun b x e nb=>⟨by rw[bf (fun(z:b=a)=>nb (by rw[z];exact hb))];exact e,nb⟩,rfl,fun b o hb h=>by rw[bf (nz b hb)];exact h,fun _ _ h=>h⟩
 have hl:k < S.length:=by rw[←w.len];exact(List.getElem?_eq_some_iff.mp hk).1
 refine⟨⟨by rw[List.length_set];exact w.len,w.nd,fun j b x hj hx=>?_,fun b hb=>?_,fun j b hj hx=>?_,fun b hb=>?_,fun j b hj hx=>?_⟩,p⟩
 ·by_cases q:k=j
  ·subst q
   rw[hk] at hj;cases hj
   rw[List.getElem?_set_self hl] at hx;cases hx
   rw[bc]
   exact r.pre p
  ·rw[List.getElem?_set_ne q] at hx
   have ne:b≠a:=fun z=>by subst z;exact q (w.nd k j b hk hj)
   rw[bf ne]
   exact(w.ob j b x hj hx).pre p
 ·obtain⟨⟨o,ho⟩,nb⟩:=w.zb b hb
  exact⟨⟨o,by rw[bf (nz b hb)];exact ho⟩,nb⟩
 ·by_cases q:k=j
  ·subst q
   rw[hk] at hj;cases hj
   exact hf
  ·rw[List.getElem?_set_ne q] at hx
   exact w.fz j b hj hx
 ·obtain⟨o,ho⟩:=w.ff b hb
  exact⟨o,by rw[bf (fun z=>hf (by rw[←z];exact hb))];exact ho⟩
 ·by_cases q:k=j
  ·subst q
   rw[List.getElem?_set_self hl] at hx;cases hx
   exact absurd rfl hne
  ·rw[List.getElem?_set_ne q] at hx
   exact w.fi j b hj hx
theorem SW.iS{K:PySem.W.Frag}{cl:Nat→Addr}{ρ:P3}{H:Hp}{S:aN}(w:SW K cl ρ H S){k:Nat}{a:Addr}{ds:List D}(hk:ρ.r[k]? =some a)(hS:S[k]? =some (.lst ds)) :
 SW K cl ⟨ρ.r,ρ.z,a ::ρ.f⟩ H (S.set k .iS)∧Pre ρ H ⟨ρ.r,ρ.z,a ::ρ.f⟩ H∧Rep K (⟨ρ.r,ρ.z,a ::ρ.f⟩:P3).b H (.lst ds) (.ref a):=by
 have hl:k < S.length:=by rw[←w.len];exact(List.getElem?_eq_some_iff.mp hk).1
 have sub:∀b,b∈(⟨ρ.r,ρ.z,a ::ρ.f⟩:P3).b→b∈ρ.b:=fun b hb=>by
  rcases P3.dP.mp hb with⟨z,n⟩ | z
  ·exact P3.dP.mpr (.inl ⟨z,fun h=>n (List.mem_cons_of_mem _ h)⟩)
  ·exact P3.dP.mpr (.inr z)
 have p:Pre ρ H ⟨ρ.r,ρ.z,a ::ρ.f⟩ H:=⟨fun b o e nb=>⟨e,fun hb=>nb (sub b hb)⟩,rfl,fun _ _ _ h=>h,fun _ _ h=>h⟩
 obtain⟨xs,e1,r1⟩:=w.ob k a _ hk hS
 refine⟨⟨by rw[List.length_set];exact w.len,w.nd,fun j b x hj hx=>?_,w.zb,fun j b hj hx=>?_,fun b hb=>?_,fun j b hj hx=>?_⟩,p,?_⟩
 ·by_cases q:k=j
  ·subst q
   rw[List.getElem?_set_self hl] at hx;cases hx
   rw[hk] at hj;cases hj
   exact⟨_,e1⟩
  ·rw[List.getElem?_set_ne q] at hx
   exact(w.ob j b x hj hx).pre p
 ·by_cases q:k=j
  ·subst q
   rw[List.getElem?_set_self hl] at hx
   exact absurd rfl hx
  ·rw[List.getElem?_set_ne q] at hx
   intro h
   rcases List.mem_cons.mp h with z | z
   ·subst z;exact q (w.nd k j b hk hj)
   ·exact w.fz j b hj hx z
 ·rcases List.mem_cons.mp hb with z | z
  ·subst z;exact⟨_,e1⟩
  ·exact w.ff b z
 ·by_cases q:k=j
  ·subst q
   rw[hk] at hj;cases hj
   exact List.mem_cons_self
  ·rw[List.getElem?_set_ne q] at hx
   exact List.mem_cons_of_mem _ (w.fi j b hj hx)
 ·refine Rep.lst.mpr ⟨a,xs,rfl, .inl ⟨fun hb=>?_, .inl e1⟩,r1.bq p.bq⟩
  rcases P3.dP.mp hb with⟨_,n⟩ | z
  ·exact n List.mem_cons_self
  ·exact(w.zb a z).2 (List.mem_of_getElem? hk)
mutual
noncomputable def kx:D→Bool
 | .lst _=>false
 | .dct _ _=>false
 | .tup ds=>jl ds
 | _=>true
noncomputable def jl:List D→Bool
 | []=>true
 | d ::ds=>kx d && jl ds
end
mutual
theorem Rep.vD{K:PySem.W.Frag}{B:List Addr}{H:Hp}(hB:∀b∈B,∀xs,¬Rd H b (.tup xs)):∀{d:D} {v:V},kx d=true→Rep K [] H d v→Rep K B H d v
 | .cS,v,_,r=>Rep.cS.mpr (Rep.cS.mp r)
 | .bl _,v,_,r=>Rep.bl.mpr (Rep.bl.mp r)
 | .int _,v,_,r=>Rep.int.mpr (Rep.int.mp r)
 | .str _,v,_,r=>Rep.str.mpr (Rep.str.mp r)
 | .lst _,v,h,_=>by unfold kx at h;cases h
 | .dct _ _,v,h,_=>by unfold kx at h;cases h
 | .tup ds,v,h,r=>by
   unfold kx at h
   obtain⟨a,xs,rfl,l,rs⟩:=Rep.tup.mp r
   exact Rep.tup.mpr ⟨a,xs,rfl,l.elim (fun z=> .inl ⟨fun hb=>hB a hb xs z.2,z.2⟩) .inr,aH.vD hB h rs⟩
theorem aH.vD{K:PySem.W.Frag}{B:List Addr}{H:Hp}(hB:∀b∈B,∀xs,¬Rd H b (.tup xs)):∀{ds:List D} {vs:List V},jl ds=true→aH K [] H ds vs→aH K B H ds vs
 | [],_,_,r=>by unfold aH at r;subst r;exact aH.nil
 | d ::ds,vs,h,r=>by
   unfold jl at h
   obtain⟨h1,h2⟩:=Bool.and_eq_true_iff.mp h
   obtain⟨x,xs,rfl,r1,r2⟩:=r.cC
   exact aH.cons (Rep.vD hB h1 r1) (aH.vD hB h2 r2)
end
theorem SW.nt{K:PySem.W.Frag}{cl:Nat→Addr}{ρ:P3}{H:Hp}{S:aN}(w:SW K cl ρ H S):∀b∈ρ.b,∀xs,¬Rd H b (.tup xs):=fun b hb xs h=>by
 have key:∀o,H b=some o→(∀xs,o≠ .tup xs)→(∀ob xs,o≠ .iS ob (.tup xs))→False:=fun o e h1 h2=>by
  rcases h with z | ⟨ob,z⟩
  ·rw[e] at z;cases z;exact h1 _ rfl
  ·rw[e] at z;cases z;exact h2 _ _ rfl
 rcases P3.dP.mp hb with⟨z,n⟩ | z
 ·obtain⟨k,hk⟩:=List.getElem?_of_mem z
  have hl:=(List.getElem?_eq_some_iff.mp hk).1
  have hS:S[k]? =some (S[k]'(by rw[←w.len];exact hl)):=List.getElem?_eq_getElem (by rw[←w.len];exact hl)
  have r:=w.ob k b _ hk hS
  generalize S[k]'(by rw[←w.len];exact hl)=o at r hS
  cases o with
  | lst ds=>obtain⟨ys,e,_⟩:=r;exact key _ e (fun _ q=>by cases q) (fun _ _ q=>by cases q)
  | dct kvs=>obtain⟨ys,e,_⟩:=r;exact key _ e (fun _ q=>by cases q) (fun _ _ q=>by cases q)
  | ins c fs=>obtain⟨dx,ys,e,_⟩:=r;exact key _ e (fun _ q=>by cases q) (fun _ _ q=>by cases q)
  | iS=>exact n (w.fi k b hk hS)
 ·obtain⟨⟨ys,e⟩,_⟩:=w.zb b z
  exact key _ e (fun _ q=>by cases q) (fun _ _ q=>by cases q)
noncomputable abbrev DE:=List (Option V3)
structure fg (K:PySem.W.Frag) (cl:Nat→Addr) (ρ:P3) (H:Hp) (S:aN) (σ:L2.St) (δ:DE):Prop where
 len:δ.length=σ.length
 sw:SW K cl ρ H S
 val:∀(i:Nat) (d:V3),δ[i]? =some (some d)→∃v,σ[i]? =some (some v)∧bh K ρ H d v
theorem fg.to{K:PySem.W.Frag}{cl:Nat→Addr}{ρ ρ':P3}{H H':Hp}{S S':aN}{σ:L2.St}{δ:DE}(E:fg K cl ρ H S σ δ)(p:Pre ρ H ρ' H')(w:SW K cl ρ' H' S'):fg K cl ρ' H' S' σ δ:=
 ⟨E.len,w,fun i d e=>let⟨v,h1,h2⟩:=E.val i d e;⟨v,h1,h2.pre p⟩⟩
theorem fg.set{K:PySem.W.Frag}{cl:Nat→Addr}{ρ:P3}{H:Hp}{S:aN}{σ:L2.St}{δ:DE}(E:fg K cl ρ H S σ δ){i:Nat}{d:V3}{v:V}(hi:i < σ.length)(r:bh K ρ H d v):fg K cl ρ H S (σ.set i (some v)) (δ.set i (some d)):=
 ⟨by rw[List.length_set,List.length_set];exact E.len,E.sw,fun j d' e=>by
   by_cases h:i=j
   ·subst h
    rw[List.getElem?_set_self (by rw[E.len];exact hi)] at e
    cases e
    exact⟨v,List.getElem?_set_self hi,r⟩
   ·rw[List.getElem?_set_ne h] at e ⊢
    exact E.val j d' e⟩
noncomputable def down(δ:DE):ax:=δ.map fun x=>match x with | some (.d d)=> .val d | _=> .un
theorem fg.down{K:PySem.W.Frag}{cl:Nat→Addr}{ρ:P3}{H:Hp}{S:aN}{σ:L2.St}{δ:DE}(E:fg K cl ρ H S σ δ):d_ K [] ρ.b H σ (down δ) where
 len:=by unfold L3.down;rw [List.length_map];exact E.len
 bs:=E.sw.bs
 zb:=fun a ha=>by cases ha
 val:=fun i d e=>by
  unfold L3.down at e
  rw[List.getElem?_map] at e
  cases q:δ[i]? with
  | none=>rw [q] at e;cases e
  | some x=>
    rw[q] at e
    match x,e,q with
    | some (.d y),e,q=>
      cases e
      obtain⟨v,h1,h2⟩:=E.val i _ q
      unfold bh at h2
      exact⟨v,h1,h2⟩
    | some (.loc k),e,q=>cases e
    | some (.lst k),e,q=>cases e
    | some (.tup k),e,q=>cases e
    | none,e,q=>cases e
 bld:=fun i ds e=>by
  unfold L3.down at e
  rw[List.getElem?_map] at e
  cases q:δ[i]? with
  | none=>rw [q] at e;cases e
  | some x=>
    rw[q] at e
    match x,e with
    | some (.d y),e=>cases e
    | some (.loc k),e=>cases e
    | some (.lst k),e=>cases e
    | some (.tup k),e=>cases e
    | none,e=>cases e
 dis:=fun i j a ds es e=>by
  unfold L3.down at e
  rw[List.getElem?_map] at e
  cases q:δ[i]? with
  | none=>rw [q] at e;cases e
  | some x=>
    rw[q] at e
    match x,e with
    | some (.d y),e=>cases e
    | some (.loc k),e=>cases e
    | some (.lst k),e=>cases e
    | some (.tup k),e=>cases e
    | none,e=>cases e
mutual
noncomputable def res(S:aN):V3→Option D
 | .d x=>some x
 | .loc k=>(match S[k]? with | some (.lst ds)=>some (.lst ds) | _=>none)
 | .lst vs=>(mh S vs).map D.lst
 | .tup vs=>(mh S vs).map D.tup
noncomputable def mh(S:aN):List V3→Option (List D)
 | []=>some []
 | v ::vs=>(res S v).bind fun d=>(mh S vs).map (d ::·)
end
noncomputable def bY(S:aN)(δ:DE):ax:=δ.map fun x=>match x with | some v=>(match res S v with | some d=> .val d | none=> .un) | none=> .un
theorem oB{α β:Type}{o:Option α}{f:α→β}{b:β}(h:o.map f=some b):∃a,o=some a∧f a=b:=by
 cases o with
 | none=>cases h
 | some a=>cases h;exact⟨a,rfl,rfl⟩
theorem w6{α β:Type}{o:Option α}{f:α→Option β}{b:β}(h:o.bind f=some b):∃a,o=some a∧f a=some b:=by
 cases o with
 | none=>cases h
 | some a=>exact⟨a,rfl,h⟩
mutual
noncomputable def d9(n:Nat):V3→Bool
 | .d _=>true
 | .loc k=>decide (n≤k)
 | .lst vs=>nv n vs
 | .tup vs=>nv n vs
noncomputable def nv(n:Nat):List V3→Bool
 | []=>true
 | v ::vs=>d9 n v && nv n vs
end
mutual
theorem bh.resB{K:PySem.W.Frag}{cl:Nat→Addr}{ρ:P3}{H:Hp}{S:aN}{B':List Addr}{n:Nat}(w:SW K cl ρ H S)(p:dE ρ.b H B' H)(hn:∀(k:Nat) (a:Addr),n≤k→ρ.r[k]? =some a→a ∉ B'):∀{v:V3} {d:D} {x:V},d9 n v=true→res S v=some d→bh K ρ H v x→Rep K B' H d x
 | .d y,d,x,_,h,r=>by unfold L3.res at h;cases h;unfold bh at r;exact r.bq p
 | .loc k,d,x,g,h,r=>by
   unfold L3.res at h
   unfold bh at r
   unfold d9 at g
   obtain⟨a,h1,rfl⟩:=r
   split at h
   ·rename_i ds e
    cases h
    obtain⟨xs,e2,q⟩:=w.ob k a _ h1 e
    unfold Rep
    exact⟨a,xs,rfl, .inl ⟨hn k a (of_decide_eq_true g) h1, .inl e2⟩,q.bq p⟩
   ·cases h
 | .lst vs,d,x,g,h,r=>by
   unfold L3.res at h
   unfold d9 at g
   obtain⟨ds,e,rfl⟩:=oB h
   unfold bh at r
   obtain⟨a,xs,rfl,l,r⟩:=r
   unfold Rep
   exact⟨a,xs,rfl,l.bq p,aG.resB w p hn g e r⟩
 | .tup vs,d,x,g,h,r=>by
   unfold L3.res at h
   unfold d9 at g
   obtain⟨ds,e,rfl⟩:=oB h
   unfold bh at r
   obtain⟨a,xs,rfl,l,r⟩:=r
   unfold Rep
   exact⟨a,xs,rfl,sL.bq p l,aG.resB w p hn g e r⟩
theorem aG.resB{K:PySem.W.Frag}{cl:Nat→Addr}{ρ:P3}{H:Hp}{S:aN}{B':List Addr}{n:Nat}(w:SW K cl ρ H S)(p:dE ρ.b H B' H)(hn:∀(k:Nat) (a:Addr),n≤k→ρ.r[k]? =some a→a ∉ B'):∀{vs:List V3} {ds:List D} {xs:List V},nv n vs=true→mh S vs=some ds→aG K ρ H vs xs→aH K B' H ds xs
 | [],ds,xs,_,h,r=>by unfold mh at h;cases h;unfold aG at r;subst r;exact aH.nil
 | v ::vs,ds,xs,g,h,r=>by
   unfold mh at h
   unfold nv at g
   obtain⟨g1,g2⟩:=Bool.and_eq_true_iff.mp g
   obtain⟨d,e1,h2⟩:=w6 h
   obtain⟨es,e2,rfl⟩:=oB h2
   obtain⟨y,ys,rfl,r1,r2⟩:=r.cC
   exact aH.cons (bh.resB w p hn g1 e1 r1) (aG.resB w p hn g2 e2 r2)
end
mutual
theorem sO:∀v:V3,d9 0 v=true
 | .d _=>by unfold d9;rfl
 | .loc k=>by unfold d9;exact decide_eq_true (Nat.zero_le _)
 | .lst vs=>by unfold d9;exact mO vs
 | .tup vs=>by unfold d9;exact mO vs
theorem mO:∀vs:List V3,nv 0 vs=true
 | []=>by unfold nv;rfl
 | v ::vs=>by unfold nv;rw [sO v,mO vs];rfl
end
theorem bh.res{K:PySem.W.Frag}{cl:Nat→Addr}{ρ:P3}{H:Hp}{S:aN}(w:SW K cl ρ H S){v:V3}{d:D}{x:V}(h:res S v=some d)(r:bh K ρ H v x):Rep K [] H d x:=
 r.resB w (fun b o e _=>⟨e,by simp⟩) (n:=0) (fun _ _ _ _=>by simp) (sO v) h
theorem oF{S:aN}{δ:DE}{i:Nat}{y:Sl}(e:(bY S δ)[i]? =some y):(∃v d,δ[i]? =some (some v)∧res S v=some d∧y= .val d)∨y= .un:=by
 unfold bY at e
 rw[List.getElem?_map] at e
 cases q:δ[i]? with
 | none=>rw [q] at e;cases e
 | some x=>
   rw[q] at e
   cases x with
   | none=>cases e;exact .inr rfl
   | some v=>
     cases z:res S v with
     | none=>
       have e:some (match res S v with | some d=>Sl.val d | none=> .un)=some y:=e
       rw[z] at e;cases e;exact .inr rfl
     | some d=>
       have e:some (match res S v with | some d=>Sl.val d | none=> .un)=some y:=e
       rw[z] at e;cases e;exact .inl ⟨v,d,rfl,z,rfl⟩
theorem fg.bY{K:PySem.W.Frag}{cl:Nat→Addr}{ρ:P3}{H:Hp}{S:aN}{σ:L2.St}{δ:DE}(E:fg K cl ρ H S σ δ):d_ K [] [] H σ (bY S δ) where
 len:=by unfold L3.bY;rw [List.length_map];exact E.len
 bs:=fun a ha=>by cases ha
 zb:=fun a ha=>by cases ha
 val:=fun i d e=>by
  rcases oF e with⟨v,d',h1,h2,h3⟩ | h
  ·cases h3
   obtain⟨x,q1,q2⟩:=E.val i v h1
   exact⟨x,q1,q2.res E.sw h2⟩
  ·cases h
 bld:=fun i ds e=>by
  rcases oF e with⟨v,d',h1,h2,h3⟩ | h
  ·cases h3
  ·cases h
 dis:=fun i j a ds es e=>by
  rcases oF e with⟨v,d',h1,h2,h3⟩ | h
  ·cases h3
  ·cases h
noncomputable abbrev FX:=DE→aN→R3 V3
noncomputable abbrev FB:=DE→aN→R3 Bool
noncomputable abbrev FA:=DE→aN→R3 (List V3)
noncomputable def tX(K:PySem.W.Frag)(cl:Nat→Addr)(f:FX):TE:=fun σ H Q=>∃ρ S δ v S',fg K cl ρ H S σ δ∧f δ S= .ok v S'∧∀u ρ' H',Pre ρ H ρ' H'→SW K cl ρ' H' S'→bh K ρ' H' v u→Q u H'
noncomputable def EH(K:PySem.W.Frag)(cl:Nat→Addr)(f:FB):TT:=fun σ H Q=>∃ρ S δ b S',fg K cl ρ H S σ δ∧f δ S= .ok b S'∧∀ρ' H',Pre ρ H ρ' H'→SW K cl ρ' H' S'→Q b H'
noncomputable def Kf(K:PySem.W.Frag)(cl:Nat→Addr)(f:FA):TA:=fun σ H Q=>∃ρ S δ vs S',fg K cl ρ H S σ δ∧f δ S= .ok vs S'∧∀us ρ' H',Pre ρ H ρ' H'→SW K cl ρ' H' S'→aG K ρ' H' vs us→Q us H'
structure PX (X:Cx) (cl:Nat→Addr) (e:Expr) (f:FX):Prop where
 go:PE X e (tX X.K cl f)
structure CI (X:Cx) (cl:Nat→Addr) (e:Expr) (f:FB):Prop where
 go:PT X e (EH X.K cl f)
structure Cm (X:Cx) (cl:Nat→Addr) (es:List Expr) (f:FA):Prop where
 go:PA X es (Kf X.K cl f)
section
variable {X:Cx} {cl:Nat→Addr}
noncomputable def xP(f:FD):FX:=fun δ S=>(R3.of (f (down δ)) S).bind fun d S=> .ok (.d d) S
theorem aj{e:Expr}{f:FD}(h:QD X e f):PX X cl e (xP f):=⟨h.1.imp fun σ H Q ⟨ρ,S,δ,v,S',E,hf,q⟩=>by
 obtain⟨d,S1,h1,h2⟩:=R3.aq hf
 obtain⟨h3,e3⟩:=R3.of_ok h1
 cases h2
 subst e3
 exact⟨[],ρ.b,down δ,d,E.down,h3,fun v H' s r=>q v ρ H' (Pre.same s) (E.sw.same s) (by unfold bh;exact r)⟩⟩
noncomputable def xT(f:FD):FX:=fun δ S=>(R3.of (f (bY S δ)) S).bind fun d S=>R3.cc (kx d) (.ok (.d d) S)
theorem cF{e:Expr}{f:FD}(h:QD X e f):PX X cl e (xT f):=⟨h.1.imp fun σ H Q ⟨ρ,S,δ,v,S',E,hf,q⟩=>by
 obtain⟨d,S1,h1,h2⟩:=R3.aq hf
 obtain⟨h4,e3⟩:=R3.of_ok h1
 obtain⟨ha,h3⟩:=R3.br h2
 cases h3
 subst e3
 exact⟨[],[],bY _ δ,d,E.bY,h4,fun v H' s r=>q v ρ H' (Pre.same s) (E.sw.same s) (by unfold bh;exact Rep.vD (E.sw.same s).nt ha r)⟩⟩
noncomputable def bP(f:ax→R Bool):FB:=fun δ S=>R3.of (f (down δ)) S
theorem gm{e:Expr}{f:ax→R Bool}(h:QB X e f):CI X cl e (bP f):=⟨h.1.imp fun σ H Q ⟨ρ,S,δ,v,S',E,hf,q⟩=>by
 obtain⟨h1,e3⟩:=R3.of_ok hf
 subst e3
 exact⟨[],ρ.b,down δ,v,E.down,h1,fun H' s=>q ρ H' (Pre.same s) (E.sw.same s)⟩⟩
noncomputable def bT(f:ax→R Bool):FB:=fun δ S=>R3.of (f (bY S δ)) S
theorem lr{e:Expr}{f:ax→R Bool}(h:QB X e f):CI X cl e (bT f):=⟨h.1.imp fun σ H Q ⟨ρ,S,δ,v,S',E,hf,q⟩=>by
 obtain⟨h1,e3⟩:=R3.of_ok hf
 subst e3
 exact⟨[],[],bY _ δ,v,E.bY,h1,fun H' s=>q ρ H' (Pre.same s) (E.sw.same s)⟩⟩
noncomputable def bC(i:Nat):FX:=fun δ S=>match δ[i]? with | some (some v)=> .ok v S | _=> .no
theorem aI(i:Nat){x:Str}{pos:Pos}(hN:X.N[i]? =some x:=by rfl)(hv:Ei X.env.scope x:=by first | exact Or.inl rfl | exact Or.inr (Or.inl rfl) | exact Or.inr (Or.inr rfl))(hd:(x==("__debug__":Str))=false:=by decide)
 (hcd:(x==("__classdict__":Str))=false:=by decide):PX X cl (.Name x pos) (bC i):=⟨(tw hN hv hd hcd).imp fun σ H Q ⟨ρ,S,δ,v,S',E,hf,q⟩=>by
 unfold bC at hf
 split at hf
 ·rename_i d' e
  cases hf
  obtain⟨u,h1,h2⟩:=E.val i _ e
  exact⟨u,h1,q u ρ H (Pre.refl ρ H) E.sw h2⟩
 ·cases hf⟩
noncomputable def kY(f:ax→R (List D)):FX:=fun δ S=>(R3.of (f (down δ)) S).bind fun ds S=> .ok (.loc S.length) (S++[.lst ds])
theorem fK{e:Expr}{f:ax→R (List D)}(h:QN X e f):PX X cl e (kY f):=⟨h.1.imp fun σ H Q ⟨ρ,S,δ,v,S',E,hf,q⟩=>by
 obtain⟨ds,S1,h1,h2⟩:=R3.aq hf
 obtain⟨h3,e3⟩:=R3.of_ok h1
 cases h2
 subst e3
 refine⟨[],ρ.b,down δ,ds,E.down,h3,fun a xs H' s n e r=>?_⟩
 have r':aH X.K (ρ.push a).b H' ds xs:=r.bq fun b o e nb=>⟨e,fun hb=>nb (by
  rcases P3.mem_push hb with z | z
  ·exact List.mem_cons_of_mem _ z
  ·subst z;exact List.mem_cons_self)⟩
 obtain⟨w,p⟩:=E.sw.new (o:= .lst ds) s n ⟨xs,e,r'⟩
 exact q _ _ H' p w (by unfold bh;exact⟨a,by show(ρ.r++[a])[_]? =_;rw [←E.sw.len,List.getElem?_append_right (by omega),Nat.sub_self];rfl,rfl⟩)⟩
end
end L3
end
section
set_option maxRecDepth 100000
set_option maxHeartbeats 4000000
namespace L3
open PySem PySem.Spec PyProof.Rows L2
section
variable {X:Cx} {cl:Nat→Addr}
noncomputable def bH:FA:=fun _ S=> .ok [] S
noncomputable def aw(f:FX)(g:FA):FA:=fun δ S=>(f δ S).bind fun v S1=>(g δ S1).bind fun vs S2=> .ok (v ::vs) S2
theorem aC:Cm X cl [] bH:=⟨j2.imp fun σ H Q ⟨ρ,S,δ,v,S',E,hf,q⟩=>by
 cases hf
 exact q [] ρ H (Pre.refl ρ H) E.sw aG.nil⟩
theorem ae{e:Expr}{es:List Expr}{f:FX}{g:FA}(h:PX X cl e f)(t:Cm X cl es g)(hs:starEach (e ::es) X.env=(false,eval e X.env) ::starEach es X.env:=by rfl):Cm X cl (e ::es) (aw f g):=
 ⟨(ic h.1 t.1 hs).imp fun σ H Q ⟨ρ,S,δ,v,S',E,hf,q⟩=>by
   obtain⟨v1,S1,h1,h2⟩:=R3.aq hf
   obtain⟨vs,S2,h3,h4⟩:=R3.aq h2
   cases h4
   exact⟨ρ,S,δ,v1,S1,E,h1,fun u ρ1 H1 p1 w1 r1=>⟨ρ1,S1,δ,vs,_,E.to p1 w1,h3,fun us ρ2 H2 p2 w2 r2=>q _ ρ2 H2 (p1.trans p2) w2 (aG.cons (r1.pre p2) r2)⟩⟩⟩
noncomputable def j7:List V3→Option (List D)
 | []=>some []
 | .d x ::r=>(j7 r).map (x ::·)
 | _ ::_=>none
theorem iu:∀{vs:List V3} {ds:List D},j7 vs=some ds→vs=ds.map .d
 | [],ds,h=>by cases h;rfl
 | .d x ::r,ds,h=>by
   cases e:j7 r with
   | none=>have h:(j7 r).map (x ::·)=some ds:=h;rw [e] at h;cases h
   | some es=>
     have h:(j7 r).map (x ::·)=some ds:=h
     rw[e] at h
     cases h
     rw[iu e]
     rfl
 | .loc _ ::_,_,h=>by cases h
 | .lst _ ::_,_,h=>by cases h
 | .tup _ ::_,_,h=>by cases h
theorem p6:∀ds:List D,j7 (ds.map .d)=some ds
 | []=>rfl
 | d ::ds=>by show(j7 (ds.map .d)).map (d ::·)=_;rw [p6 ds];rfl
noncomputable def ky(vs:List V3):V3:=match j7 vs with | some ds=> .d (.tup ds) | none=> .tup vs
noncomputable def iL(vs:List V3):V3:=match j7 vs with | some ds=> .d (.lst ds) | none=> .lst vs
noncomputable def ve(g:FA):FX:=fun δ S=>(g δ S).bind fun vs S=>R3.cc (decide (vs.length≤sizeLine)) (.ok (ky vs) S)
theorem pK{ρ:P3}{H:Hp}{p:Addr}{o:HO}(hp:H p=none):Pre ρ H ρ (upd H p o):=Pre.same (bb hp)
theorem zJ{K:PySem.W.Frag}{ρ:P3}{H:Hp}{vs:List V3}{xs:List V}{a:Addr}(l:sL K ρ.b H a xs)(r:aG K ρ H vs xs):bh K ρ H (ky vs) (.ref a):=by
 unfold ky
 split
 ·rename_i ds e
  rw[iu e] at r
  unfold bh Rep
  exact⟨a,xs,rfl,l,r.to⟩
 ·unfold bh
  exact⟨a,xs,rfl,l,r⟩
theorem rJ{K:PySem.W.Frag}{ρ:P3}{H:Hp}{vs:List V3}{xs:List V}{a:Addr}(l:qW K ρ.b H a xs)(r:aG K ρ H vs xs):bh K ρ H (iL vs) (.ref a):=by
 unfold iL
 split
 ·rename_i ds e
  rw[iu e] at r
  unfold bh Rep
  exact⟨a,xs,rfl,l,r.to⟩
 ·unfold bh
  exact⟨a,xs,rfl,l,r⟩
theorem om{es:List Expr}{g:FA}{x1 pos}(h:Cm X cl es g):PX X cl (.Tuple es x1 pos) (ve g):=⟨(AH h.1).imp fun σ H Q ⟨ρ,S,δ,v,S',E,hf,q⟩=>by
 obtain⟨vs,S1,h1,h2⟩:=R3.aq hf
 obtain⟨hl,h3⟩:=R3.br h2
 cases h3
 refine⟨ρ,S,δ,vs,_,E,h1,fun us ρ1 H1 p1 w1 r1=>⟨by rw[←r1.length];exact of_decide_eq_true hl,fun p hp=>q _ ρ1 _ (p1.trans (pK hp)) (w1.same (bb hp)) ?_⟩⟩
 refine zJ (.inl ⟨fun ha=>?_, .inl bc⟩) (r1.pre (pK hp))
 obtain⟨o,ho⟩:=w1.bs p ha
 rw[hp] at ho;cases ho⟩
noncomputable def GR(g:FA):FX:=fun δ S=>(g δ S).bind fun vs S=>R3.cc (decide (vs.length≤sizeLine)) (.ok (iL vs) S)
theorem EY{es:List Expr}{g:FA}{pos}(h:Cm X cl es g):PX X cl (.List es pos) (GR g):=⟨(Cg h.1).imp fun σ H Q ⟨ρ,S,δ,v,S',E,hf,q⟩=>by
 obtain⟨vs,S1,h1,h2⟩:=R3.aq hf
 obtain⟨hl,h3⟩:=R3.br h2
 cases h3
 refine⟨ρ,S,δ,vs,_,E,h1,fun us ρ1 H1 p1 w1 r1=>⟨by rw[←r1.length];exact of_decide_eq_true hl,fun p hp=>q _ ρ1 _ (p1.trans (pK hp)) (w1.same (bb hp)) ?_⟩⟩
 refine rJ (.inl ⟨fun ha=>?_, .inl bc⟩) (r1.pre (pK hp))
 obtain⟨o,ho⟩:=w1.bs p ha
 rw[hp] at ho;cases ho⟩
noncomputable def x2(g:D→D→R D)(fa fb:FX):FX:=fun δ S=>(fa δ S).bind fun a S1=>(fb δ S1).bind fun b S2=>match a,b with
 | .d x, .d y=>(R3.of (g x y) S2).bind fun d S=> .ok (.d d) S
 | _,_=> .no
theorem F6{K:PySem.W.Frag}{g:D→D→R D}{fa fb:FX}{σ:L2.St}{H:Hp}{Q:VK}(h:tX K cl (x2 g fa fb) σ H Q) :
 GX (fun x y H Q=>∃B da db d,(∀a∈B,∃o,H a=some o)∧Rep K B H da x∧Rep K B H db y∧g da db= .ok d∧∀z H',aU H H'→Rep K B H' d z→Q z H') (tX K cl fa) (tX K cl fb) σ H Q:=by
 obtain⟨ρ,S,δ,v,S',E,hf,q⟩:=h
 obtain⟨a,S1,h1,h2⟩:=R3.aq hf
 obtain⟨b,S2,h3,h4⟩:=R3.aq h2
 match a,b,h1,h3,h4 with
 | .d x, .d y,h1,h3,h4=>
   obtain⟨d,S3,h5,h6⟩:=R3.aq h4
   obtain⟨h7,e⟩:=R3.of_ok h5
   cases h6
   subst e
   refine⟨ρ,S,δ, .d x,S1,E,h1,fun u1 ρ1 H1 p1 w1 r1=>⟨ρ1,S1,δ, .d y,_,E.to p1 w1,h3,fun u2 ρ2 H2 p2 w2 r2=>?_⟩⟩
   have r1':=r1.pre p2
   unfold bh at r1' r2
   exact⟨ρ2.b,x,y,d,w2.bs,r1',r2,h7,fun z H' s r=>q z ρ2 H' (p1.trans (p2.trans (Pre.same s))) (w2.same s) (by unfold bh;exact r)⟩
 | .d x, .loc _,_,_,h4=>cases h4
 | .d x, .lst _,_,_,h4=>cases h4
 | .d x, .tup _,_,_,h4=>cases h4
 | .loc _,_,_,_,h4=>cases h4
 | .lst _,_,_,_,h4=>cases h4
 | .tup _,_,_,_,h4=>cases h4
theorem oJ{op:Operator}{g:D→D→R D}{a b:Expr}{fa fb:FX}{pos:Pos}(ho:kI X (binaryOp op) g)(ha:PX X cl a fa)(hb:PX X cl b fb):PX X cl (.BinOp a op b pos) (x2 g fa fb):=
 ⟨(xG ho.r ha.1 hb.1).imp fun σ H Q h=>F6 h⟩
theorem s_{op:CmpOp}{g:D→D→R D}{a b:Expr}{fa fb:FX}{pos:Pos}(ho:kI X (compareOp op) g)(ha:PX X cl a fa)(hb:PX X cl b fb)(hm:behindInMarks op b=false):PX X cl (.Compare a [op] [b] pos) (x2 g fa fb):=
 ⟨(DO ho.r ha.1 hb.1 hm).imp fun σ H Q h=>F6 h⟩
noncomputable def Hw(g:D→D→R D)(fa fb:FX):FB:=fun δ S=>(x2 g fa fb δ S).bind fun v S=>match v with | .d (.bl b)=> .ok b S | _=> .no
theorem ye{op:CmpOp}{g:D→D→R D}{a b:Expr}{fa fb:FX}{pos:Pos}(ho:kI X (compareOp op) g)(ha:PX X cl a fa)(hb:PX X cl b fb)(hm:behindInMarks op b=false):CI X cl (.Compare a [op] [b] pos) (Hw g fa fb):=
 ⟨(ya ho.r ha.1 hb.1 hm).imp fun σ H Q ⟨ρ,S,δ,b,S',E,hf,q⟩=>by
   obtain⟨v,S1,h1,h2⟩:=R3.aq hf
   have hv:v= .d (.bl b)∧S1=S':=by
    match v,h2 with
    | .d (.bl k),h2=>cases h2;exact⟨rfl,rfl⟩
    | .d .cS,h2=>cases h2
    | .d (.int _),h2=>cases h2
    | .d (.str _),h2=>cases h2
    | .d (.lst _),h2=>cases h2
    | .d (.tup _),h2=>cases h2
    | .d (.dct _ _),h2=>cases h2
    | .loc _,h2=>cases h2
    | .lst _,h2=>cases h2
    | .tup _,h2=>cases h2
   obtain⟨rfl,rfl⟩:=hv
   exact F6 (g:=g) (Q:=fun x H'=>∃k,x= .bl k∧Q k H') ⟨ρ,S,δ,_,_,E,h1,fun u ρ' H' p w r=>⟨b,by unfold bh Rep at r;exact r,q ρ' H' p w⟩⟩⟩
inductive Ou where
 | nx (δ:DE) | rt (v:V3)
noncomputable abbrev FZ:=DE→aN→R3 Ou
noncomputable def DX(K:PySem.W.Frag)(cl:Nat→Addr)(ρ:P3)(H:Hp)(D:Ends)(S':aN):Ou→Prop
 | .nx δ'=>∀σ' ρ' H',Pre ρ H ρ' H'→fg K cl ρ' H' S' σ' δ'→D.nx σ' H'
 | .rt v=>∀u ρ' H',Pre ρ H ρ' H'→SW K cl ρ' H' S'→bh K ρ' H' v u→D.rt u H'
theorem DX.pre{K:PySem.W.Frag}{ρ ρ1:P3}{H H1:Hp}{D:Ends}{S':aN}{o:Ou}(q:DX K cl ρ H D S' o)(p:Pre ρ H ρ1 H1):DX K cl ρ1 H1 D S' o:=by
 cases o with
 | nx δ'=>exact fun σ' ρ' H' p' E'=>q σ' ρ' H' (p.trans p') E'
 | rt d=>exact fun v ρ' H' p' w r=>q v ρ' H' (p.trans p') w r
noncomputable def sX(K:PySem.W.Frag)(cl:Nat→Addr)(F:FZ):TS:=fun D σ H=>∃ρ S δ o S',fg K cl ρ H S σ δ∧F δ S= .ok o S'∧DX K cl ρ H D S' o
structure PZ (X:Cx) (cl:Nat→Addr) (st:Stmt) (F:FZ):Prop where
 go:PS X st (sX X.K cl F)
structure zY (X:Cx) (cl:Nat→Addr) (st:List Stmt) (F:FZ):Prop where
 go:ue X st (sX X.K cl F)
noncomputable def qz:FZ:=fun δ S=> .ok (.nx δ) S
noncomputable def bu(F G:FZ):FZ:=fun δ S=>(F δ S).bind fun o S1=>match o with | .nx δ'=>G δ' S1 | .rt d=> .ok (.rt d) S1
theorem ke:zY X cl [] qz:=⟨xQ.imp fun D σ H ⟨ρ,S,δ,o,S',E,hf,q⟩=>by
 cases hf
 exact q σ ρ H (Pre.refl ρ H) E⟩
theorem av{st:Stmt}{rest:List Stmt}{F G:FZ}(h1:PZ X cl st F)(h2:zY X cl rest G):zY X cl (st ::rest) (bu F G):=⟨(u7 h1.1 h2.1).imp fun D σ H ⟨ρ,S,δ,o,S',E,hf,q⟩=>by
 obtain⟨o1,S1,h1,h2⟩:=R3.aq hf
 refine⟨ρ,S,δ,o1,S1,E,h1,?_⟩
 cases o1 with
 | nx δ1=>
   intro σ1 ρ1 H1 p1 E1
   exact⟨ρ1,S1,δ1,o,S',E1,h2,q.pre p1⟩
 | rt d=>
   cases h2
   exact q⟩
theorem aK{st:Stmt}{F:FZ}(h1:PZ X cl st F):zY X cl [st] F:=⟨yx h1.1⟩
noncomputable def cn(i:Nat)(f:FX):FZ:=fun δ S=>(f δ S).bind fun v S=>R3.cc (decide (i < δ.length)) (.ok (.nx (δ.set i (some v))) S)
theorem aW{i:Nat}{x:Str}{e:Expr}{f:FX}{pos pos':Pos}(hN:X.N.Nodup)(hi:X.N[i]? =some x)(hx:Loc X.env.scope x)(he:PX X cl e f)(hs:swapsWith e (some (.Name x pos')) pos.line X.env=pure false:=by rfl)(hf:X.fn x=true∨X.env.scope.names.lookup x=some .local:=by first | exact .inl rfl | exact .inr rfl | assumption) :
 PZ X cl (.Assign [.Name x pos'] e pos) (cn i f):=⟨(wy hN hi hx he.1 hs hf).imp fun D σ H ⟨ρ,S,δ,o,S',E,hf,q⟩=>by
 obtain⟨v,S1,h1,h2⟩:=R3.aq hf
 obtain⟨hi,h3⟩:=R3.br h2
 cases h3
 refine⟨ρ,S,δ,v,_,E,h1,fun u ρ1 H1 p1 w1 r1=>?_⟩
 exact q _ ρ1 H1 p1 ((E.to p1 w1).set (by rw[←E.len];exact of_decide_eq_true hi) r1)⟩
noncomputable def gK(f:FX):FZ:=fun δ S=>(f δ S).bind fun v S=> .ok (.rt v) S
theorem cO{e:Expr}{f:FX}{pos:Pos}(he:PX X cl e f):PZ X cl (.Return (some e) pos) (gK f):=⟨(Ci he.1).imp fun D σ H ⟨ρ,S,δ,o,S',E,hf,q⟩=>by
 obtain⟨v,S1,h1,h2⟩:=R3.aq hf
 cases h2
 exact⟨ρ,S,δ,v,_,E,h1,fun u ρ1 H1 p1 w1 r1=>q u ρ1 H1 p1 w1 r1⟩⟩
noncomputable def xW(c:FB)(F G:FZ):FZ:=fun δ S=>(c δ S).bind fun b S=>if b then F δ S else G δ S
theorem l0{c:Expr}{a b:List Stmt}{fc:FB}{F G:FZ}{pos:Pos}(hc:CI X cl c fc)(ha:zY X cl a F)(hb:zY X cl b G):PZ X cl (.If c a b pos) (xW fc F G):=⟨(El hc.1 ha.1 hb.1).imp fun D σ H ⟨ρ,S,δ,o,S',E,hf,q⟩=>by
 obtain⟨k,S1,h1,h2⟩:=R3.aq hf
 refine⟨ρ,S,δ,k,S1,E,h1,fun ρ1 H1 p1 w1=>?_⟩
 cases k with
 | true=>rw [if_pos rfl] at h2;exact BV ⟨ρ1,S1,δ,o,S',E.to p1 w1,h2,q.pre p1⟩
 | false=>rw [if_neg (by decide)] at h2;exact Bl ⟨ρ1,S1,δ,o,S',E.to p1 w1,h2,q.pre p1⟩⟩
noncomputable def J7(f:FX):FZ:=fun δ S=>(f δ S).bind fun _ S=> .ok (.nx δ) S
noncomputable def lF(c:FB)(body:FZ):Nat→FZ
 | 0,_,_=> .no
 | n+1,δ,S=>(c δ S).bind fun b S=>if b then(body δ S).bind fun o S=>match o with | .nx δ2=>lF c body n δ2 S | .rt r=> .ok (.rt r) S else .ok (.nx δ) S
noncomputable def xt(n:Nat)(c:FB)(body:FZ):FZ:=fun δ S=>lF c body n δ S
theorem Bf(n:Nat){c:Expr}{body:List Stmt}{fc:FB}{F:FZ}{pos:Pos}(hp:PassesOwn (model X.prog X.w) X.A X.env X.xe)(hc:CI X cl c fc)(hb:zY X cl body F):PZ X cl (.While c body [] pos) (xt n fc F):=
 ⟨(BL hp hc.1 hb.1).imp fun D σ H ⟨ρ,S,δ,o,S',E,hf,q⟩=>by
   refine⟨fun m σ' H'=>∃ρ1 S1 δ1,Pre ρ H ρ1 H'∧fg X.K cl ρ1 H' S1 σ' δ1∧lF fc F m δ1 S1= .ok o S',⟨n,ρ,S,δ,Pre.refl ρ H,E,hf⟩,?_⟩
   rintro m σ' H' ⟨ρ1,S1,δ1,p1,E1,hw⟩
   cases m with
   | zero=>cases hw
   | succ m=>
     obtain⟨b,S2,h1,h2⟩:=R3.aq hw
     refine⟨ρ1,S1,δ1,b,S2,E1,h1,fun ρ2 H2 p2 w2=>?_⟩
     cases b with
     | false=>
       rw[if_neg (by decide)] at h2
       cases h2
       exact Bl (q σ' ρ2 H2 (p1.trans p2) (E1.to p2 w2))
     | true=>
       rw[if_pos rfl] at h2
       obtain⟨o1,S3,h3,h4⟩:=R3.aq h2
       refine BV ⟨fun σ4 H4=>∃ρ4 S4 δ4,Pre ρ H ρ4 H4∧fg X.K cl ρ4 H4 S4 σ4 δ4∧lF fc F m δ4 S4= .ok o S',fun σ4 H4 n=>⟨m,Nat.lt_succ_self _,n⟩,ρ2,S2,δ1,o1,S3,E1.to p2 w2,h3,?_⟩
       cases o1 with
       | nx δ2=>exact fun σ3 ρ3 H3 p3 E3=>⟨ρ3,S3,δ2,(p1.trans p2).trans p3,E3,h4⟩
       | rt d=>
         cases h4
         exact fun v ρ3 H3 p3 w r=>q v ρ3 H3 ((p1.trans p2).trans p3) w r⟩
end
end L3
end
section
set_option maxRecDepth 100000
set_option maxHeartbeats 4000000
namespace L3
open PySem PySem.Spec PyProof.Rows L2
theorem aG.get{K:PySem.W.Frag}{ρ:P3}{H:Hp}:∀{ds:List V3} {xs:List V} {i:Nat} {d:V3},aG K ρ H ds xs→ds[i]? =some d→∃x,xs[i]? =some x∧bh K ρ H d x
 | [],_,_,_,_,e=>by simp at e
 | d ::ds,xs,0,d',h,e=>by
   obtain⟨x,r,rfl,h1,h2⟩:=h.cC
   simp at e;subst e
   exact⟨x,rfl,h1⟩
 | d ::ds,xs,i+1,d',h,e=>by
   obtain⟨x,r,rfl,h1,h2⟩:=h.cC
   obtain⟨y,e1,e2⟩:=aG.get (i:=i) h2 (by simpa using e)
   exact⟨y,by simpa using e1,e2⟩
noncomputable def G1(K:PySem.W.Frag)(ρ:P3)(H:Hp)(J:It)(vs:List V3):Prop:=∀ρ' H',PW ρ H ρ' H'→(∀a∈ρ'.b,∃o,H' a=some o)→(∀(i:Nat) (d:V3),vs[i]? =some d→J.go i H'∧∀x H'',J.yld i H' x H''→aU H' H''∧bh K ρ' H'' d x)∧J.stop vs.length H'
theorem G1.of{K:PySem.W.Frag}{ρ:P3}{H:Hp}{J:It}{ds:List D}(h:Ad K ρ.b H J ds):G1 K ρ H J (ds.map .d):=fun ρ' H' p bs=>by
 obtain⟨h1,h2⟩:=h ρ'.b H' p.bq
 refine⟨fun i v hv=>?_,by rw[List.length_map];exact h2⟩
 rw[List.getElem?_map] at hv
 cases e:ds[i]? with
 | none=>rw [e] at hv;cases hv
 | some d=>
   rw[e] at hv
   cases hv
   obtain⟨g1,g2⟩:=h1 i d e
   exact⟨g1,fun x H'' y=>let⟨s,r⟩:=g2 x H'' y bs;⟨s,by unfold bh;exact r⟩⟩
noncomputable def Kl(K:PySem.W.Frag)(cl:Nat→Addr)(f:FA):TI:=fun σ H R=>∃ρ S δ vs S',fg K cl ρ H S σ δ∧f δ S= .ok vs S'∧∀J ρ1 H1,Pre ρ H ρ1 H1→SW K cl ρ1 H1 S'→G1 K ρ1 H1 J vs→R J H1
structure GN (X:Cx) (cl:Nat→Addr) (tg e:Expr) (f:FA):Prop where
 go:PI X tg e (Kl X.K cl f)
section
variable {X:Cx} {cl:Nat→Addr}
noncomputable def iP(f:ax→R (List D)):FA:=fun δ S=>(R3.of (f (down δ)) S).bind fun ds S=> .ok (ds.map .d) S
theorem cR{tg e:Expr}{f:ax→R (List D)}(h:w_ X tg e f):GN X cl tg e (iP f):=⟨h.1.imp fun σ H Q ⟨ρ,S,δ,vs,S',E,hf,q⟩=>by
 obtain⟨ds,S1,h1,h2⟩:=R3.aq hf
 obtain⟨h3,e3⟩:=R3.of_ok h1
 cases h2
 subst e3
 exact⟨[],ρ.b,down δ,ds,E.down,h3,fun J H1 s r=>q J ρ H1 (Pre.same s) (E.sw.same s) (G1.of r)⟩⟩
noncomputable def k8(f:FX):FA:=fun δ S=>(f δ S).bind fun v S=>match v with | .d (.int j)=>R3.cc (decide (-(2 ^ 62)≤j∧j < 2 ^ 62)) (.ok ((cH 0 j.toNat).map .d) S) | _=> .no
theorem fF{tg a:Expr}{f:FX}{p pos:Pos}(h:PX X cl a f)(hg:Gl X "range")(hm:X.mg "range"=none)(hs:starEach [a] X.env=[(false,eval a X.env)]:=by rfl):GN X cl tg (.Call (.Name "range" p) [a] [] pos) (k8 f):=
 ⟨(rK hg hm (ic h.1 j2 hs) hs).imp fun σ H RR ⟨ρ,S,δ,vs,S',E,hf,q⟩=>by
   obtain⟨v,S1,h1,h2⟩:=R3.aq hf
   match v,h1,h2 with
   | .d (.int j),h1,h2=>
     obtain⟨hb,h3⟩:=R3.br h2
     cases h3
     have hb:=of_decide_eq_true hb
     refine⟨ρ,S,δ, .d (.int j),_,E,h1,fun u ρ1 H1 p1 w1 r1=>⟨j,?_,hb.1,hb.2,q _ ρ1 H1 p1 w1 (G1.of (Ba 0 _))⟩⟩
     unfold bh Rep at r1
     rw[r1]
   | .d .cS,_,h2=>cases h2
   | .d (.bl _),_,h2=>cases h2
   | .d (.str _),_,h2=>cases h2
   | .d (.lst _),_,h2=>cases h2
   | .d (.tup _),_,h2=>cases h2
   | .d (.dct _ _),_,h2=>cases h2
   | .loc _,_,h2=>cases h2
   | .lst _,_,h2=>cases h2
   | .tup _,_,h2=>cases h2⟩
noncomputable def vd(f:FX):FA:=fun δ S=>(f δ S).bind fun v S=>match v with | .d (.lst ds)=> .ok (ds.map .d) S | .lst vs=> .ok vs S | _=> .no
theorem m5{tg e:Expr}{f:FX}(h:PX X cl e f):GN X cl tg e (vd f):=⟨by
 intro pins s σ H RR I ⟨ρ,S,δ,vs,S',E,hf,q⟩
 obtain⟨v,S1,h1,h2⟩:=R3.aq hf
 refine dN (h.1 pins s σ H (fun u H1=>∃ρ1,Pre ρ H ρ1 H1∧SW X.K cl ρ1 H1 S1∧bh X.K ρ1 H1 v u) I ⟨ρ,S,δ,v,S1,E,h1,fun u ρ1 H1 p1 w1 r1=>⟨ρ1,p1,w1,r1⟩⟩) fun u s1 ⟨x,H1,I1,r1,ρ1,p1,w1,rr⟩=>?_
 have key:S1=S'∧∃a xs,x= .ref a∧qW X.K ρ1.b H1 a xs∧aG X.K ρ1 H1 vs xs:=by
  match v,h2,rr with
  | .d (.lst ds),h2,rr=>
    cases h2
    unfold bh Rep at rr
    obtain⟨a,xs,e,l,r⟩:=rr
    exact⟨rfl,a,xs,e,l,aG.of r⟩
  | .lst ws,h2,rr=>
    cases h2
    unfold bh at rr
    exact⟨rfl,rr⟩
  | .d .cS,h2,_=>cases h2
  | .d (.bl _),h2,_=>cases h2
  | .d (.int _),h2,_=>cases h2
  | .d (.str _),h2,_=>cases h2
  | .d (.tup _),h2,_=>cases h2
  | .d (.dct _ _),h2,_=>cases h2
  | .loc _,h2,_=>cases h2
  | .tup _,h2,_=>cases h2
 obtain⟨rfl,a,xs,rfl,l,rr⟩:=key
 cases r1
 obtain⟨its,rv,p,hz⟩:=I1.list l.sq
 refine wpAny_pyIter_list p.isList ?_
 refine⟨s1.heap.objs.size,[s1.heap.objs.size],_,_,H1,rfl,I1.kept (t':=s1.toks) fun b o e=>Heap.get?_push_of_some _ e,sd a _,⟨_,Heap.get?_push_size _ rfl,rfl,rfl⟩,fun b hb=>?_,q _ ρ1 H1 p1 w1 fun ρ' H' pr bs=>?_⟩
 ·have e:b=s1.heap.objs.size:=by simpa using hb
  subst e
  exact I1.rA (Nat.le_refl _) (I1.hok.fresh (Nat.le_refl _))
 ·have l':qW X.K ρ'.b H' a xs:=l.bq pr.bq
  have rr':=rr.pw pr
  refine⟨fun i d hd=>?_,⟨xs,l'.sq,by rw[rr.length];exact Nat.le_refl _⟩⟩
  obtain⟨x,hx,rx⟩:=rr'.get hd
  exact⟨⟨xs,x,l'.sq,hx⟩,fun y H'' ⟨e1,e2⟩=>by
   subst e1
   have:=e2 xs l'.sq
   rw[hx] at this
   cases this
   exact⟨aU.refl _,rx⟩⟩⟩
noncomputable abbrev FG:=V3→DE→Option DE
noncomputable abbrev Eb:=List V3→DE→Option DE
noncomputable def gX(K:PySem.W.Frag)(cl:Nat→Addr)(t:FG):TG:=fun v σ H Q=>∃ρ S δ x δ',fg K cl ρ H S σ δ∧bh K ρ H x v∧t x δ=some δ'∧∀σ' H',aU H H'→fg K cl ρ H' S σ' δ'→Q σ' H'
noncomputable def Lj(K:PySem.W.Frag)(cl:Nat→Addr)(t:Eb):BI:=fun v σ H Q=>∃ρ S δ x δ',fg K cl ρ H S σ δ∧aG K ρ H x v∧t x δ=some δ'∧∀σ' H',aU H H'→fg K cl ρ H' S σ' δ'→Q σ' H'
structure G0 (X:Cx) (cl:Nat→Addr) (tg:Expr) (t:FG):Prop where
 go:PG X tg (gX X.K cl t)
structure D5 (X:Cx) (cl:Nat→Addr) (tg:List Expr) (t:Eb):Prop where
 go:Ef X tg (Lj X.K cl t)
theorem fg.same{K:PySem.W.Frag}{ρ:P3}{H H':Hp}{S:aN}{σ:L2.St}{δ:DE}(E:fg K cl ρ H S σ δ)(s:aU H H'):fg K cl ρ H' S σ δ:=E.to (Pre.same s) (E.sw.same s)
noncomputable def i7(i:Nat):FG:=fun d δ=>if i < δ.length then some (δ.set i (some d)) else none
theorem bg{i:Nat}{x:Str}{pos:Pos}(hN:X.N.Nodup)(hi:X.N[i]? =some x)(hx:Loc X.env.scope x)(hf:X.fn x=true∨X.env.scope.names.lookup x=some .local:=by first | exact .inl rfl | exact .inr rfl | assumption):G0 X cl (.Name x pos) (i7 i):=
 ⟨(yK hN hi hx hf).imp fun v σ H Q ⟨ρ,S,δ,d,δ',E,r,ht,q⟩=>by
   unfold i7 at ht
   split at ht
   ·rename_i hi
    cases ht
    exact q _ H (aU.refl H) (E.set (by rw[←E.len];exact hi) r)
   ·cases ht⟩
noncomputable def zp:Eb:=fun ds δ=>match ds with | []=>some δ | _=>none
noncomputable def uZ(t:FG)(u:Eb):Eb:=fun ds δ=>match ds with | d ::r=>(t d δ).bind fun δ'=>u r δ' | []=>none
theorem ny:D5 X cl [] zp:=⟨xR.imp fun vs σ H Q ⟨ρ,S,δ,ds,δ',E,r,ht,q⟩=>by
 cases ds with
 | nil=>unfold aG at r;cases ht;exact⟨r,q σ H (aU.refl H) E⟩
 | cons=>cases ht⟩
theorem fV{e:Expr}{es:List Expr}{t:FG}{u:Eb}(h1:G0 X cl e t)(h2:D5 X cl es u)(hs:(assignEach (e ::es) X.env).map (·.2)=assign e X.env ::(assignEach es X.env).map (·.2):=by rfl):D5 X cl (e ::es) (uZ t u):=
 ⟨(vC h1.1 h2.1 hs).imp fun vs σ H Q ⟨ρ,S,δ,ds,δ',E,r,ht,q⟩=>by
   cases ds with
   | nil=>cases ht
   | cons d ds=>
     obtain⟨x,xs,rfl,r1,r2⟩:=r.cC
     have ht:(t d δ).bind (fun δ'=>u ds δ')=some δ':=ht
     cases e1:t d δ with
     | none=>rw [e1] at ht;cases ht
     | some δ1=>
       rw[e1] at ht
       exact⟨x,xs,rfl,ρ,S,δ,d,δ1,E,r1,e1,fun σ1 H1 s1 E1=>⟨ρ,S,δ1,ds,δ',E1,r2.pre (Pre.same s1),ht,fun σ2 H2 s2 E2=>q σ2 H2 (s1.trans s2) E2⟩⟩⟩
noncomputable def yy(n:Nat)(t:Eb):FG:=fun d δ=>match d with
 | .d (.tup ds)=>if ds.length=n then t (ds.map .d) δ else none
 | .tup vs=>if vs.length=n then t vs δ else none
 | _=>none
theorem pF{es:List Expr}{k:Nat}{t:Eb}{n:Nat}{pos:Pos}(hc:X.calm=true)(h:D5 X cl es t)(hn:(assignEach es X.env).length=n:=by rfl)(hst:(assignEach es X.env).findIdx? (·.1)=none:=by rfl):G0 X cl (.Tuple es k pos) (yy n t):=
 ⟨(Ab hc h.1 hn hst).imp fun v σ H Q ⟨ρ,S,δ,d,δ',E,r,ht,q⟩=>by
   have key:∃vs a xs,v= .ref a∧sL X.K ρ.b H a xs∧aG X.K ρ H vs xs∧vs.length=n∧t vs δ=some δ':=by
    unfold yy at ht
    split at ht
    ·rename_i ds
     split at ht
     ·rename_i hl
      unfold bh Rep at r
      obtain⟨a,xs,e,l,r⟩:=r
      exact⟨ds.map .d,a,xs,e,l,aG.of r,by rw[List.length_map];exact hl,ht⟩
     ·cases ht
    ·rename_i vs
     split at ht
     ·rename_i hl
      unfold bh at r
      obtain⟨a,xs,e,l,r⟩:=r
      exact⟨vs,a,xs,e,l,r,hl,ht⟩
     ·cases ht
    ·cases ht
   obtain⟨vs,a,xs,rfl,l,r,hl,ht⟩:=key
   exact⟨a,xs,rfl,l.sq,by rw[←r.length];exact hl,ρ,S,δ,vs,δ',E,r,ht,q⟩⟩
noncomputable def LJ(f:FX)(t:FG):FZ:=fun δ S=>(f δ S).bind fun d S=>match t d δ with | some δ'=> .ok (.nx δ') S | none=> .no
noncomputable def kF(t:FG)(body:FZ):List V3→FZ
 | [],δ,S=> .ok (.nx δ) S
 | d ::ds,δ,S=>match t d δ with
   | none=> .no
   | some δ1=>(body δ1 S).bind fun o S=>match o with | .nx δ2=>kF t body ds δ2 S | .rt r=> .ok (.rt r) S
noncomputable def jt(it:FA)(t:FG)(body:FZ):FZ:=fun δ S=>(it δ S).bind fun vs S=>kF t body vs δ S
theorem d3{tg iter:Expr}{body:List Stmt}{it:FA}{t:FG}{F:FZ}{pos:Pos}(hp:PassesOwn (model X.prog X.w) X.A X.env X.xe)(hc:X.calm=true)(hi:GN X cl tg iter it)(hg:G0 X cl tg t)(hb:zY X cl body F)
 (hs:∀x,foldedSetIterable iter X.env x=pure x:=by intro _;rfl):PZ X cl (.For tg iter body [] pos) (jt it t F):=⟨(AG hp hc hi.1 hg.1 hb.1 hs).imp fun D σ H ⟨ρ,S,δ,o,S',E,hf,q⟩=>by
 obtain⟨ds,S0,h1,h2⟩:=R3.aq hf
 refine⟨ρ,S,δ,ds,S0,E,h1,fun J ρ1 H1 p1 w1 ir=>?_⟩
 refine⟨fun i m σ' H'=>m=ds.length - i∧i≤ds.length∧∃ρ' S1 δ',Pre ρ1 H1 ρ' H'∧fg X.K cl ρ' H' S1 σ' δ'∧kF t F (ds.drop i) δ' S1= .ok o S',⟨ds.length,rfl,Nat.zero_le _,ρ1,S0,δ,Pre.refl ρ1 H1,E.to p1 w1,by simpa using h2⟩,?_⟩
 rintro i m σ' H' ⟨rfl,hi,ρ',S1,δ',pv,E',hl⟩
 obtain⟨go,stop⟩:=ir ρ' H' pv.pw E'.sw.bs
 by_cases hlt:i < ds.length
 ·have hd:ds[i]? =some ds[i]:=List.getElem?_eq_getElem hlt
  have hdrop:ds.drop i=ds[i] ::ds.drop (i+1):=List.drop_eq_getElem_cons hlt
  rw[hdrop] at hl
  unfold kF at hl
  split at hl
  ·cases hl
  ·rename_i δ1 h3
   obtain⟨o1,S2,h5,h6⟩:=R3.aq hl
   obtain⟨g1,g2⟩:=go i _ hd
   refine .inr ⟨g1,fun σ2 H2=>∃ρ2 S2 δ2,Pre ρ1 H1 ρ2 H2∧fg X.K cl ρ2 H2 S2 σ2 δ2∧kF t F (ds.drop (i+1)) δ2 S2= .ok o S',fun σ2 H2 n=>⟨ds.length - (i+1),by omega,rfl,hlt,n⟩,fun x H'' y=>?_⟩
   obtain⟨ss,rr⟩:=g2 x H'' y
   refine⟨ρ',S1,δ',ds[i],δ1,E'.same ss,rr,h3,fun σ2 H2 s2 E2=>⟨ρ',S1,δ1,o1,S2,E2,h5,?_⟩⟩
   have pv2:Pre ρ1 H1 ρ' H2:=pv.trans (Pre.same (ss.trans s2))
   cases o1 with
   | nx δ2=>exact fun σ3 ρ3 H3 p3 E3=>⟨ρ3,S2,δ2,pv2.trans p3,E3,h6⟩
   | rt d=>
     cases h6
     exact fun v ρ3 H3 p3 w r=>q v ρ3 H3 (p1.trans (pv2.trans p3)) w r
 ·have e:i=ds.length:=by omega
  subst e
  rw[List.drop_length] at hl
  cases hl
  exact .inl ⟨stop,q σ' ρ' H' (p1.trans pv) E'⟩⟩
end
end L3
end
section
set_option maxRecDepth 100000
set_option maxHeartbeats 4000000
namespace L3
open PySem PySem.Spec PyProof.Rows L2
mutual
noncomputable def k3(n:Nat):V3→Bool
 | .d _=>true
 | .loc k=>decide (k < n)
 | .lst vs=>g7 n vs
 | .tup vs=>g7 n vs
noncomputable def g7(n:Nat):List V3→Bool
 | []=>true
 | v ::vs=>k3 n v && g7 n vs
end
noncomputable def lN(n:Nat):SO→Bool
 | .ins _ fs=>g7 n (fs.map (·.2))
 | _=>true
theorem DK{ρ:P3}{n:Nat}{b:Addr}(h:b∈(ρ.cut n).b):b∈ρ.b:=by
 rcases P3.dP.mp h with z | z
 ·exact P3.dP.mpr (.inl ⟨List.mem_of_mem_take z.1,z.2⟩)
 ·exact P3.dP.mpr (.inr z)
theorem iT{ρ:P3}{H:Hp}(n:Nat):dE ρ.b H (ρ.cut n).b H:=fun b o e nb=>⟨e,fun hb=>nb (DK hb)⟩
mutual
theorem bh.cut{K:PySem.W.Frag}{ρ:P3}{H:Hp}{n:Nat}:∀{v:V3} {x:V},k3 n v=true→bh K ρ H v x→bh K (ρ.cut n) H v x
 | .d y,x,_,h=>by unfold bh at h ⊢;exact h.bq (iT n)
 | .loc k,x,o,h=>by
   unfold bh at h ⊢
   unfold k3 at o
   obtain⟨a,h1,h2⟩:=h
   exact⟨a,by show(ρ.r.take n)[k]? =_;rw [List.getElem?_take_of_lt (of_decide_eq_true o)];exact h1,h2⟩
 | .lst vs,x,o,h=>by
   unfold bh at h ⊢
   unfold k3 at o
   obtain⟨a,xs,e,l,r⟩:=h
   exact⟨a,xs,e,l.bq (iT n),aG.cut o r⟩
 | .tup vs,x,o,h=>by
   unfold bh at h ⊢
   unfold k3 at o
   obtain⟨a,xs,e,l,r⟩:=h
   exact⟨a,xs,e,sL.bq (iT n) l,aG.cut o r⟩
theorem aG.cut{K:PySem.W.Frag}{ρ:P3}{H:Hp}{n:Nat}:∀{vs:List V3} {xs:List V},g7 n vs=true→aG K ρ H vs xs→aG K (ρ.cut n) H vs xs
 | [],_,_,h=>by unfold aG at h ⊢;exact h
 | v ::vs,xs,o,h=>by
   unfold g7 at o
   obtain⟨o1,o2⟩:=Bool.and_eq_true_iff.mp o
   obtain⟨x,r,rfl,h1,h2⟩:=h.cC
   exact aG.cons (bh.cut o1 h1) (aG.cut o2 h2)
end
theorem SW.cut{K:PySem.W.Frag}{cl:Nat→Addr}{ρ:P3}{H:Hp}{S:aN}(w:SW K cl ρ H S){n:Nat}(ok:(S.take n).all (lN n)=true):SW K cl (ρ.cut n) H (S.take n):=
 ⟨by show(ρ.r.take n).length=_;rw [List.length_take,List.length_take,w.len],fun i j a hi hj=>by
   have hi:(ρ.r.take n)[i]? =some a:=hi
   have hj:(ρ.r.take n)[j]? =some a:=hj
   have gi:ρ.r[i]? =some a:=by
    rw[List.getElem?_take] at hi;split at hi
    ·exact hi
    ·cases hi
   have gj:ρ.r[j]? =some a:=by
    rw[List.getElem?_take] at hj;split at hj
    ·exact hj
    ·cases hj
   exact w.nd i j a gi gj,fun k a o hk ho=>by
   have hk:(ρ.r.take n)[k]? =some a:=hk
   have gk:ρ.r[k]? =some a:=by
    rw[List.getElem?_take] at hk;split at hk
    ·exact hk
    ·cases hk
   have go:S[k]? =some o:=by
    rw[List.getElem?_take] at ho;split at ho
    ·exact ho
    ·cases ho
   have r:=w.ob k a o gk go
   have oo:lN n o=true:=List.all_eq_true.mp ok o (List.mem_of_getElem? ho)
   cases o with
   | lst ds=>obtain⟨xs,e,q⟩:=r;exact⟨xs,e,q.bq (iT n)⟩
   | dct kvs=>obtain⟨ys,e,e2,q⟩:=r;exact⟨ys,e,e2,q.bq (iT n)⟩
   | ins c fs=>obtain⟨dx,ys,e,e2,q⟩:=r;exact⟨dx,ys,e,e2,q.cut oo⟩
   | iS=>exact r,fun b hb=>let⟨h1,h2⟩:=w.zb b hb;⟨h1,fun h=>h2 (List.mem_of_mem_take h)⟩,(fun k a hk ho=>by
   have hk:(ρ.r.take n)[k]? =some a:=hk
   rw[List.getElem?_take] at hk
   split at hk
   ·rename_i hlt
    rw[List.getElem?_take_of_lt hlt] at ho
    exact w.fz k a hk ho
   ·cases hk),w.ff,(fun k a hk ho=>by
   have hk:(ρ.r.take n)[k]? =some a:=hk
   rw[List.getElem?_take] at hk
   split at hk
   ·rename_i hlt
    rw[List.getElem?_take_of_lt hlt] at ho
    exact w.fi k a hk ho
   ·cases hk)⟩
theorem SW.FU{K:PySem.W.Frag}{cl:Nat→Addr}{ρ ρ':P3}{H H':Hp}{n:Nat}(hn:ρ.r.length≤n)(p:Pre ρ H ρ' H'):Pre ρ H (ρ'.cut n) H':=
 ⟨p.bq.trans (iT n),p.zz,p.zs,fun k a h=>by show(ρ'.r.take n)[k]? =_;rw [List.getElem?_take_of_lt (Nat.lt_of_lt_of_le (List.getElem?_eq_some_iff.mp h).1 hn)];exact p.ext k a h⟩
section
variable {X:Cx} {cl:Nat→Addr}
noncomputable def c_(S:aN)(k:Nat):Option (List D):=match S[k]? with | some (.lst ds)=>some ds | _=>none
theorem fJ{S:aN}{k:Nat}{ds:List D}(h:c_ S k=some ds):S[k]? =some (.lst ds):=by
 unfold c_ at h
 split at h
 ·rename_i e;cases h;exact e
 ·cases h
noncomputable def gz(δ:DE)(i:Nat):Option Nat:=match δ[i]? with | some (some (.loc k))=>some k | _=>none
theorem mL{δ:DE}{i k:Nat}(h:gz δ i=some k):δ[i]? =some (some (.loc k)):=by
 unfold gz at h
 split at h
 ·rename_i e;cases h;exact e
 ·cases h
noncomputable def il(i:Nat)(f:FX):FZ:=fun δ S=>match gz δ i with
 | none=> .no
 | some k=>match c_ S k with
   | none=> .no
   | some _=>(f δ S).bind fun v S1=>match v with
     | .d d=>(match c_ S1 k with | some ds=>R3.cc (decide (ds.length < sizeLine)) (.ok (.nx δ) (S1.set k (.lst (ds++[d])))) | none=> .no)
     | _=> .no
theorem eB{i:Nat}{x:Str}{e:Expr}{f:FX}{npos apos cpos pos:Pos}(hN:X.N[i]? =some x)(hv:Ei X.env.scope x)(he:PX X cl e f)
 (hd:(x==("__debug__":Str))=false:=by decide) (hcd:(x==("__classdict__":Str))=false:=by decide)
 (hs:starEach [e] X.env=(false,eval e X.env) ::starEach [] X.env:=by rfl) (hline:(apos.endLine==cpos.line)=true:=by rfl)
 (hfew:((backTo cpos (starEach [e] X.env)).all (fun x=>!x.1) && (backToKw cpos (keywordEach [] X.env)).all (fun x=>x.1.isSome)
   && decide (([e]:List Expr).length+([]:List Keyword).length+(if([]:List Keyword).isEmpty then 0 else 1) < 30))=true:=by rfl)
 (hsw:swapsWith (.Call (.Attribute (.Name x npos) "append" apos) [e] [] cpos) none pos.line X.env=pure false:=by rfl)
 (hbase:attributeBase (.Name x npos) "append" X.env (eval (.Name x npos) X.env)=eval (.Name x npos) X.env:=by rfl) :
 PZ X cl (.Expr (.Call (.Attribute (.Name x npos) "append" apos) [e] [] cpos) pos) (il i f):=by
 refine⟨(yH (B0 (X:=X) PySem.F.plainAttrs_list PySem.F.slot_list_append PySem.F.type_list_append oC (tw hN hv hd hcd) (ic he.1 j2 hs) hbase hfew hline hs) hsw).imp fun D σ H ⟨ρ,S,δ,o,S',E,hf,q⟩=>?_⟩
 unfold il at hf
 split at hf
 ·cases hf
 ·rename_i k hk
  split at hf
  ·cases hf
  ·rename_i ds0 h0
   obtain⟨v,S1,h1,h2⟩:=R3.aq hf
   split at h2
   ·rename_i d
    split at h2
    ·rename_i ds h3
     obtain⟨hl,h4⟩:=R3.br h2
     cases h4
     obtain⟨u,u1,u2⟩:=E.val i _ (mL hk)
     unfold bh at u2
     obtain⟨a,a1,rfl⟩:=u2
     obtain⟨xs0,x0,_⟩:=E.sw.ob k a _ a1 (fJ h0)
     refine⟨.ref a,u1, .inl ⟨rfl,xs0,nV.of x0⟩,⟨ρ,S,δ, .d d,S1,E,h1,fun y ρ1 H1 p1 w1 r1=>?_⟩⟩
     have b1:=p1.ext k a a1
     obtain⟨xs,x1,x2⟩:=w1.ob k a _ b1 (fJ h3)
     refine⟨a,xs,y,rfl,rfl,x1,by rw[←x2.length];exact of_decide_eq_true hl,?_⟩
     unfold bh at r1
     obtain⟨w2,p2⟩:=w1.put (o:= .lst (ds++[d])) (u:= .lst (xs++[y])) b1 (w1.fz k a b1 (by rw[fJ h3];intro h;cases h)) ⟨xs++[y],rfl,x2.append (aH.cons r1 aH.nil)⟩
     exact q σ ρ1 _ (p1.trans p2) (E.to (p1.trans p2) w2)
    ·cases h2
   ·cases h2
noncomputable def wD(fo fi fe:FX):FZ:=fun δ S=>(fe δ S).bind fun v S1=>(fo δ S1).bind fun o S2=>(fi δ S2).bind fun j S3=>match v,o,j with
 | .d d, .loc k, .d (.int n)=>(match c_ S3 k with
   | some ds=>(match qa ds.length n with | some m=> .ok (.nx δ) (S3.set k (.lst (ds.set m d))) | none=> .no)
   | none=> .no)
 | _,_,_=> .no
noncomputable def Au(K:PySem.W.Frag)(cl:Nat→Addr)(n:Nat)(g:List V3→aN→R3 V3):Sp:=fun vs H Q _=>vs.length=n∧∃ρ S xs v S',SW K cl ρ H S∧aG K ρ H xs vs∧g xs S= .ok v S'∧∀u ρ' H',Pre ρ H ρ' H'→SW K cl ρ' H' S'→bh K ρ' H' v u→Q u H'
noncomputable def bO(g:List V3→aN→R3 V3)(fs:FA):FX:=fun δ S=>(fs δ S).bind g
noncomputable def az(P:Program)(w:World)(K:PySem.W.Frag)(mg:Str→Option Value)(base:Heap)(cl:Nat→Addr)(k:Nat)(x:Str)(n:Nat)(g:List V3→aN→R3 V3):Prop:=
 ∃(f:Addr) (fd:FuncData) (ps:List Str),ig P w K mg base rq k f fd ps (Au K cl n g)∧mg x=some (.ref f)∧PySem.W.keepIn K (.ref f)=true∧Binds K fd ps []
theorem ba{g:List V3→aN→R3 V3}{k j n:Nat}{x:Str}{p pos:Pos}{e:Expr}{es:List Expr}{fs:FA}(C:az X.prog X.w X.K X.mg X.base cl k x n g)(hr:et j X.A)(hkj:k≤j)(hg:Gl X x)(ha:Cm X cl (e ::es) fs)
 (hn:∀δ S ds S',fs δ S= .ok ds S'→ds.length=n) (hdb:(x==("__debug__":Str))=false:=by decide) (he:starEach (e ::es) X.env=(false,eval e X.env) ::starEach es X.env:=by rfl) (hpl:(backTo pos (starEach es X.env)).any (·.1)=false:=by rfl) :
 PX X cl (.Call (.Name x p) (e ::es) [] pos) (bO g fs):=by
 obtain⟨f,fd,ps,F,hm,hk,hb⟩:=C
 refine⟨(tF F (hr.mono hkj) hg hm hk hb .nil uh ha.1 hdb he hpl).imp fun σ H Q ⟨ρ,S,δ,v,S',E,hf,q⟩=>?_⟩
 obtain⟨vs,S1,h1,h2⟩:=R3.aq hf
 refine⟨ρ,S,δ,vs,S1,E,h1,fun us ρ1 H1 p1 w1 r1=>?_⟩
 show Au X.K cl n g (us++[]) H1 Q E0
 rw[List.append_nil]
 exact⟨by rw[←r1.length];exact hn δ S vs S1 h1,ρ1,S1,vs,v,S',w1,r1,h2,fun z ρ2 H2 p2 w2 r2=>q z ρ2 H2 (p1.trans p2) w2 r2⟩
end
noncomputable def bG(N:List Str)(vs:List V3):DE:=vs.map some++List.replicate (N.length - vs.length) none
theorem Ay{K:PySem.W.Frag}{cl:Nat→Addr}{ρ:P3}{H:Hp}{S:aN}{N:List Str}{ds:List V3}{vs:List V}(w:SW K cl ρ H S)(r:aG K ρ H ds vs):fg K cl ρ H S (L2.start N vs) (bG N ds) where
 len:=by unfold L2.start bG;simp [r.length]
 sw:=w
 val:=fun i d e=>by
  unfold bG at e
  unfold L2.start
  by_cases hi:i < ds.length
  ·rw[List.getElem?_append_left (by simpa using hi),List.getElem?_map] at e
   cases q:ds[i]? with
   | none=>rw [q] at e;cases e
   | some d'=>
     rw[q] at e
     cases e
     obtain⟨x,h1,h2⟩:=r.get q
     exact⟨x,by rw[List.getElem?_append_left (by rw[List.length_map,←r.length];exact hi),List.getElem?_map,h1];rfl,h2⟩
  ·rw[List.getElem?_append_right (by simpa using hi),List.getElem?_replicate] at e
   split at e <;> cases e
noncomputable def kJ(N:List Str)(F:FZ):List V3→aN→R3 V3:=fun vs S=>(F (bG N vs) S).bind fun o S'=>match o with | .rt v=> .ok v S' | .nx _=> .ok (.d .cS) S'
noncomputable def lU(N:List Str)(F:FZ):List V3→aN→R3 V3:=fun vs S=>(kJ N F vs S).bind fun v S'=>match res S' v with
 | some d=>R3.cc ((S'.take S.length).all (lN S.length) && d9 S.length v) (.ok (.d d) (S'.take S.length))
 | none=> .no
theorem DZ{P:Program}{w:World}{K:PySem.W.Frag}{mg:Str→Option Value}{base:Heap}{cl:Nat→Addr}{x qual:Str}{st:Stmt}{f:Addr}{fd:FuncData}{N ps:List Str}{k:Nat}{F:FZ}(Fn:yq K x qual st f fd)(S:aV N ps (ag st))
 (hbody:∀(cdv:Value) (A:Around) (outer:List Env) (s:Shared) (H:Hp) (E:XK),et k (A.deeper (envOfC qual (ag st) s.heap.objs.size f cdv))→
   zY (qP rq P w K mg base N qual (ag st) f cdv A outer s H E).D6 cl (ao st) F):ig P w K mg base rq (k+1) f fd ps (Au K cl ps.length (kJ N F)):=by
 refine Fn.ok S (fun vs H Q E h=>h.1) (fun cdv A outer s H vs Q E hr h=>⟨_,(hbody cdv A outer s H E hr).1,?_⟩)
 obtain⟨_,ρ,S,ds,v,S',w,r,hg,q⟩:=h
 obtain⟨o,S1,h1,h2⟩:=R3.aq hg
 refine⟨ρ,S,bG N ds,o,S1,Ay w r,h1,?_⟩
 cases o with
 | nx δ'=>
   cases h2
   exact fun σ' ρ' H' p' E'=>q _ ρ' H' p' E'.sw (by unfold bh Rep;rfl)
 | rt d'=>
   cases h2
   exact fun u ρ' H' p' w' r'=>q u ρ' H' p' w' r'
theorem wJ{K:PySem.W.Frag}{cl:Nat→Addr}{N:List Str}{F:FZ}{n:Nat}{vs:List V}{H:Hp}{Q:VK}{E:XK}(h:Au K cl n (lU N F) vs H Q E):Au K cl n (kJ N F) vs H Q E:=by
 obtain⟨hl,ρ,S,xs,v,S',w,r,hg,q⟩:=h
 obtain⟨v1,S1,h1,h2⟩:=R3.aq hg
 refine⟨hl,ρ,S,xs,v1,S1,w,r,h1,fun u ρ1 H1 p1 w1 r1=>?_⟩
 have pc:Pre ρ H (ρ1.cut S.length) H1:=SW.FU (K:=K) (cl:=cl) (by rw[w.len];exact Nat.le_refl _) p1
 split at h2
 ·rename_i d e
  obtain⟨ok,h3⟩:=R3.br h2
  obtain⟨ok,hk⟩:=Bool.and_eq_true_iff.mp ok
  cases h3
  refine q u _ H1 pc (w1.cut ok) ?_
  unfold bh
  refine r1.resB w1 (iT _) (fun k a hk a1 ha=>?_) hk e
  rcases P3.dP.mp ha with⟨z,_⟩ | z
  ·obtain⟨j,hj⟩:=List.getElem?_of_mem z
   have hj:(ρ1.r.take S.length)[j]? =some a:=hj
   rw[List.getElem?_take] at hj
   split at hj
   ·rename_i hjl
    have:=w1.nd j k a hj a1
    omega
   ·cases hj
  ·exact(w1.zb a z).2 (List.mem_of_getElem? a1)
 ·cases h2
end L3
end
section
set_option maxRecDepth 100000
set_option maxHeartbeats 4000000
namespace L3
open PySem PySem.Spec PyProof.Rows L2
theorem aH.setAt{K:PySem.W.Frag}{ρ:P3}{H:Hp}:∀{ds:List D} {xs:List V} {m:Nat} {d:D} {v:V},aH K ρ.b H ds xs→Rep K ρ.b H d v→aH K ρ.b H (ds.set m d) (xs.set m v)
 | [],_,_,_,_,h,_=>by unfold aH at h;subst h;exact aH.nil
 | e ::ds,xs,0,d,v,h,r=>by
   obtain⟨x,r',rfl,h1,h2⟩:=h.cC
   exact aH.cons r h2
 | e ::ds,xs,m+1,d,v,h,r=>by
   obtain⟨x,r',rfl,h1,h2⟩:=h.cC
   exact aH.cons h1 (aH.setAt h2 r)
section
variable {X:Cx} {cl:Nat→Addr}
theorem tI{o i e:Expr}{fo fi fe:FX}{spos pos:Pos}(he:PX X cl e fe)
 (hg:PG X (.Subscript o i spos) (HW (tX X.K cl fo) (tX X.K cl fi) EA))
 (hs:swapsWithSole [.Subscript o i spos] e pos.line X.env=pure false:=by rfl) (hw:swappedStores [.Subscript o i spos] e X.env=pure none:=by rfl)
 (h1:(assignEach [.Subscript o i spos] X.env).map (·.2)=[assign (.Subscript o i spos) X.env]:=by rfl):PZ X cl (.Assign [.Subscript o i spos] e pos) (wD fo fi fe):=⟨(EU he.1 hg hs hw h1).imp fun D σ H ⟨ρ,S,δ,ou,S',E,hf,q⟩=>by
 obtain⟨v,S1,h1,h2⟩:=R3.aq hf
 obtain⟨vo,S2,h3,h4⟩:=R3.aq h2
 obtain⟨vi,S3,h5,h6⟩:=R3.aq h4
 split at h6
 ·rename_i d k n
  split at h6
  ·rename_i ds hds
   split at h6
   ·rename_i m hm
    cases h6
    refine⟨ρ,S,δ, .d d,S1,E,h1,fun u ρ1 H1 p1 w1 r1=>⟨ρ1,S1,δ, .loc k,S2,E.to p1 w1,h3,fun u2 ρ2 H2 p2 w2 r2=>⟨ρ2,S2,δ, .d (.int n),S3,(E.to p1 w1).to p2 w2,h5,fun u3 ρ3 H3 p3 w3 r3=>?_⟩⟩⟩
    unfold bh at r2
    obtain⟨a,a1,rfl⟩:=r2
    have a3:=p3.ext k a a1
    obtain⟨xs,x1,x2⟩:=w3.ob k a _ a3 (fJ hds)
    unfold bh Rep at r3
    have r1':=r1.pre (p2.trans p3)
    unfold bh at r1'
    obtain⟨w4,p4⟩:=w3.put (o:= .lst (ds.set m d)) (u:= .lst (xs.set m u)) a3 (w3.fz k a a3 (by rw[fJ hds];intro h;cases h)) ⟨xs.set m u,rfl,aH.setAt x2 r1'⟩
    exact⟨a,xs,n,m,rfl,r3,x1,by rw[←x2.length];exact hm,q σ ρ3 _ (((p1.trans p2).trans p3).trans p4) (E.to (((p1.trans p2).trans p3).trans p4) w4)⟩
   ·cases h6
  ·cases h6
 ·cases h6⟩
noncomputable def kX(δ:DE)(i:Nat):Option V3:=match δ[i]? with | some (some v)=>some v | _=>none
noncomputable def fY(own:List Str)(kp:List Nat)(δ:DE):DE:=List.replicate own.length none++kp.map (kX δ)
theorem DW{K:PySem.W.Frag}{ρ ρ':P3}{H H':Hp}{S S':aN}{σ:L2.St}{δ:DE}{own:List Str}{kp:List Nat}(E:fg K cl ρ H S σ δ)(p:PW ρ H ρ' H')(w:SW K cl ρ' H' S'):fg K cl ρ' H' S' (dz own kp σ) (fY own kp δ) where
 len:=by unfold dz fY;simp
 sw:=w
 val:=fun i d e=>by
  unfold fY at e
  unfold dz
  by_cases hi:i < own.length
  ·rw[List.getElem?_append_left (by simpa using hi),List.getElem?_replicate] at e
   split at e <;> cases e
  ·rw[List.getElem?_append_right (by simpa using hi),List.length_replicate,List.getElem?_map] at e ⊢
   cases q:kp[i - own.length]? with
   | none=>rw [q] at e;cases e
   | some j=>
     rw[q] at e
     have e:kX δ j=some d:=Option.some.inj e
     unfold kX at e
     split at e
     ·rename_i d' ed
      cases e
      obtain⟨v,h1,h2⟩:=E.val j d ed
      exact⟨v,by simp [h1],h2.pw p⟩
     ·cases e
noncomputable def lP(t:FG)(c:FB)(f:FX)(δ:DE):List V3→aN→R3 (List V3)
 | [],S=> .ok [] S
 | v ::vs,S=>match t v δ with
   | none=> .no
   | some δ1=>(c δ1 S).bind fun b S1=>if b then(f δ1 S1).bind fun y S2=>(lP t c f δ vs S2).bind fun ys S3=> .ok (y ::ys) S3 else lP t c f δ vs S1
noncomputable def gS(it:FA)(t:FG)(c:FB)(f:FX)(own:List Str)(kp:List Nat):FX:=fun δ S=>(it δ S).bind fun vs S1=>R3.cc (decide (vs.length≤sizeLine)) ((lP t c f (fY own kp δ) vs S1).bind fun ys S2=> .ok (iL ys) S2)
theorem aG.append{K:PySem.W.Frag}{ρ:P3}{H:Hp}:∀{ds es:List V3} {xs ys:List V},aG K ρ H ds xs→aG K ρ H es ys→aG K ρ H (ds++es) (xs++ys)
 | [],_,_,_,h,t=>by unfold aG at h;subst h;exact t
 | d ::ds,es,xs,ys,h,t=>by
   obtain⟨x,r,rfl,h1,h2⟩:=h.cC
   exact aG.cons h1 (aG.append h2 t)
theorem yD{K:PySem.W.Frag}{it:FA}{t:FG}{c:FB}{f:FX}{own:List Str}{kp:List Nat}{σ:L2.St}{H:Hp}{Q:VK}(h:tX K cl (gS it t c f own kp) σ H Q) :
 yk (Kl K cl it) (gX K cl t) (EH K cl c) (tX K cl f) own kp σ H Q:=by
 obtain⟨ρ,S,δ,v,SF,E,hf,q⟩:=h
 obtain⟨es,S1,h1,h2⟩:=R3.aq hf
 obtain⟨hl,h3⟩:=R3.br h2
 have hl:=of_decide_eq_true hl
 obtain⟨vs,S2,h4,h5⟩:=R3.aq h3
 cases h5
 refine⟨ρ,S,δ,es,S1,E,h1,fun J ρ1 H1 p1 w1 ir Dd hD=>?_⟩
 have nDz:Dd ∉ ρ1.b:=fun hb=>by obtain⟨o,ho⟩:=w1.bs Dd hb;rw [hD] at ho;cases ho
 have nDr:Dd ∉ ρ1.r:=fun hb=>by obtain⟨o,ho⟩:=w1.rs Dd hb;rw [hD] at ho;cases ho
 have toZ:∀{r' f':List Addr} {H':Hp},Pre ρ1 H1 ⟨r',ρ1.z,f'⟩ H'→PW ρ1 H1 ⟨r',Dd ::ρ1.z,f'⟩ H':=fun {r' f' H'} p=>⟨fun b o e nb=>⟨(p.bq b o e nb).1,fun hb=>by
  rcases P3.dP.mp hb with z | z
  ·exact(p.bq b o e nb).2 (P3.dP.mpr (.inl z))
  ·rcases List.mem_cons.mp z with y | y
   ·exact cu e hD y
   ·exact(p.bq b o e nb).2 (P3.dP.mpr (.inr y))⟩,p.ext⟩
 have w0:SW K cl ⟨ρ1.r,Dd ::ρ1.z,ρ1.f⟩ (upd H1 Dd (.lst [])) S1:=by
  have s0:aU H1 (upd H1 Dd (.lst [])):=bb hD
  have ws:=w1.same s0
  refine⟨ws.len,ws.nd,fun k a o hk ho=>?_,fun b hb=>?_,ws.fz,ws.ff,ws.fi⟩
  ·have r:=w1.ob k a o hk ho
   obtain⟨u,hu⟩:=r.some
   rw[s0 a u hu,←hu]
   exact r.pw (toZ (Pre.same s0))
  ·rcases List.mem_cons.mp hb with y | y
   ·subst y;exact⟨⟨_,bc⟩,nDr⟩
   ·exact ws.zb b y
 refine⟨fun i m ys H'=>m=es.length - i∧i≤es.length∧ys.length≤i∧H' Dd=some (.lst ys)∧∃r' f' S' done rest,Pre ρ1 H1 ⟨r',ρ1.z,f'⟩ H'∧SW K cl ⟨r',Dd ::ρ1.z,f'⟩ H' S'∧vs=done++rest∧aG K ⟨r',Dd ::ρ1.z,f'⟩ H' done ys∧lP t c f (fY own kp δ) (es.drop i) S'= .ok rest SF,
  ⟨es.length,rfl,Nat.zero_le _,Nat.le_refl _,bc,ρ1.r,ρ1.f,S1,[],vs,Pre.same (bb hD),w0,rfl,aG.nil,by simpa using h4⟩,?_⟩
 rintro i m ys H' ⟨rfl,hi,hy,hDl,r',f',S',done,rest,pv,w',rfl,rd,hc⟩
 obtain⟨go,stop⟩:=ir ⟨r',Dd ::ρ1.z,f'⟩ H' (toZ pv) w'.bs
 have unZ:∀{ρ4:P3} {H4:Hp},Pre ⟨r',Dd ::ρ1.z,f'⟩ H' ρ4 H4→Pre ρ1 H1 ⟨ρ4.r,ρ1.z,ρ4.f⟩ H4:=fun {ρ4 H4} p4=>⟨fun b o e nb=>by
  obtain⟨e1,n1⟩:=(toZ pv).bq b o e nb
  obtain⟨e2',n2⟩:=p4.bq b o e1 n1
  refine⟨e2',fun hb=>n2 ?_⟩
  rcases P3.dP.mp hb with z | z
  ·exact P3.dP.mpr (.inl z)
  ·exact P3.dP.mpr (.inr (by rw[p4.zz];exact List.mem_cons_of_mem _ z)),rfl,fun b o hb h=>p4.zs b o (List.mem_cons_of_mem _ hb) (pv.zs b o hb h),fun k a h=>p4.ext k a (pv.ext k a h)⟩
 by_cases hlt:i < es.length
 ·have hd:es[i]? =some es[i]:=List.getElem?_eq_getElem hlt
  have hdrop:es.drop i=es[i] ::es.drop (i+1):=List.drop_eq_getElem_cons hlt
  rw[hdrop] at hc
  unfold lP at hc
  split at hc
  ·cases hc
  ·rename_i δ1 h6
   obtain⟨b,T1,h7,h8⟩:=R3.aq hc
   obtain⟨g1,g2⟩:=go i _ hd
   refine .inr ⟨g1,fun x H2 y=>?_⟩
   obtain⟨sy,ry⟩:=g2 x H2 y
   have Ec:fg K cl ⟨r',Dd ::ρ1.z,f'⟩ H2 S' (dz own kp σ) (fY own kp δ):=DW E (p1.pw.trans ((toZ pv).trans (Pre.same sy).pw)) (w'.same sy)
   refine⟨⟨r',Dd ::ρ1.z,f'⟩,S',fY own kp δ,es[i],δ1,Ec,ry,h6,fun σ3 H3 s3 E3=>⟨⟨r',Dd ::ρ1.z,f'⟩,S',δ1,b,T1,E3,h7,fun ρ4 H4 p4 w4=>?_⟩⟩
   have pv4:Pre ⟨r',Dd ::ρ1.z,f'⟩ H' ρ4 H4:=(Pre.same (sy.trans s3)).trans p4
   cases b with
   | true=>
     rw[if_pos rfl] at h8
     refine BV ?_
     obtain⟨yv,T2,h9,h10⟩:=R3.aq h8
     obtain⟨rs,T3,h11,h12⟩:=R3.aq h10
     cases h12
     refine⟨ρ4,T1,δ1,yv,T2,E3.to p4 w4,h9,fun v5 ρ5 H5 p5 w5 r5=>?_⟩
     have pv5:Pre ⟨r',Dd ::ρ1.z,f'⟩ H' ρ5 H5:=pv4.trans p5
     have hD5:H5 Dd=some (.lst ys):=pv5.zs Dd _ List.mem_cons_self hDl
     have u5:=unZ pv5
     obtain⟨r5',z5,f5⟩:=ρ5
     have ez:z5=Dd ::ρ1.z:=pv5.zz
     subst ez
     have nr:Dd ∉ r5':=(w5.zb Dd List.mem_cons_self).2
     have pw:PW ⟨r5',Dd ::ρ1.z,f5⟩ H5 ⟨r5',Dd ::ρ1.z,f5⟩ (upd H5 Dd (.lst (ys++[v5]))):=⟨fun b o e nb=>⟨by rw[bf (fun(z:b=Dd)=>nb (by rw[z];exact P3.dP.mpr (.inr List.mem_cons_self)))];exact e,nb⟩,fun _ _ h=>h⟩
     refine⟨hD5,by omega,es.length - (i+1),by omega,rfl,hlt,by rw[List.length_append,List.length_singleton];omega,bc,r5',f5,T2,done++[yv],rs,?_,?_,by simp,aG.append ((rd.pre pv5).pw pw) (aG.cons (r5.pw pw) aG.nil),h11⟩
     ·refine⟨fun b o e nb=>⟨by rw[bf (cu e hD)];exact(u5.bq b o e nb).1,(u5.bq b o e nb).2⟩,rfl,fun b o hb h=>?_,u5.ext⟩
      rw[bf (cu h hD)]
      exact u5.zs b o hb h
     ·refine⟨w5.len,w5.nd,fun k a o hk ho=>?_,fun b hb=>?_,w5.fz,fun b hb=>?_,w5.fi⟩
      ·have ne:a≠Dd:=fun z=>nr (by rw[←z];exact List.mem_of_getElem? hk)
       rw[bf ne]
       exact(w5.ob k a o hk ho).pw pw
      ·obtain⟨⟨o,ho⟩,n⟩:=w5.zb b hb
       refine⟨?_,n⟩
       by_cases z:b=Dd
       ·subst z;exact⟨_,bc⟩
       ·rw[bf z];exact⟨o,ho⟩
      ·obtain⟨o,ho⟩:=w5.ff b hb
       by_cases z:b=Dd
       ·subst z;exact⟨_,bc⟩
       ·rw[bf z];exact⟨o,ho⟩
   | false=>
     rw[if_neg (by decide)] at h8
     refine Bl ?_
     have hD4:H4 Dd=some (.lst ys):=pv4.zs Dd _ List.mem_cons_self hDl
     have u4:=unZ pv4
     obtain⟨r4',z4,f4⟩:=ρ4
     have ez:z4=Dd ::ρ1.z:=pv4.zz
     subst ez
     exact⟨es.length - (i+1),by omega,rfl,hlt,by omega,hD4,r4',f4,T1,done,rest,u4,w4,rfl,rd.pre pv4,h8⟩
 ·have e:i=es.length:=by omega
  subst e
  rw[List.drop_length] at hc
  cases hc
  rw[List.append_nil] at q
  refine .inl ⟨stop,?_⟩
  have back:PW ⟨r',Dd ::ρ1.z,f'⟩ H' ⟨r',ρ1.z,f'⟩ H':=⟨fun b o e nb=>⟨e,fun hb=>nb (by
   rcases P3.dP.mp hb with z | z
   ·exact P3.dP.mpr (.inl z)
   ·exact P3.dP.mpr (.inr (List.mem_cons_of_mem _ z)))⟩,fun _ _ h=>h⟩
  have wB:SW K cl ⟨r',ρ1.z,f'⟩ H' _:=⟨w'.len,w'.nd,fun k a o hk ho=>(w'.ob k a o hk ho).pw back,fun b hb=>w'.zb b (List.mem_cons_of_mem _ hb),w'.fz,w'.ff,w'.fi⟩
  refine q _ ⟨r',ρ1.z,f'⟩ H' (p1.trans pv) wB (rJ (.inl ⟨fun hb=>?_, .inl hDl⟩) (rd.pw back))
  rcases P3.dP.mp hb with z | z
  ·exact(w'.zb Dd List.mem_cons_self).2 z.1
  ·exact nDz (P3.dP.mpr (.inr z))
end
end L3
end
section
set_option maxRecDepth 100000
set_option maxHeartbeats 4000000
namespace L3
open PySem PySem.Spec PyProof.Rows L2
section
variable {X:Cx} {cl:Nat→Addr}
theorem lI{scope:Scope}{own:List Str}{kp:List Nat}{kn:List Str}{tg iter elt:Expr}{ifs:List Expr}{it:FA}{t:FG}{c:FB}{f:FX}{pos:Pos}(hc:X.calm=true)(C:cq X scope own kp kn)(hi:GN X cl tg iter it)
 (hg:∀fp s H,G0 (bB X scope (own++kn) fp s H) cl tg t) (hif:∀fp s H,nW (bB X scope (own++kn) fp s H) ifs (EH X.K cl c)) (he:∀fp s H,PX (bB X scope (own++kn) fp s H) cl elt f)
 (hs:∀x,foldedSetIterable iter X.env x=pure x:=by intro _;rfl):PX X cl (.ListComp elt [⟨tg,iter,ifs,0⟩] scope pos) (gS it t c f own kp):=
 ⟨(yo hc C hi.1 (fun fp s H=>(hg fp s H).1) hif (fun fp s H=>(he fp s H).1) hs).imp fun σ H Q h=>yD h⟩
noncomputable def tU:FB:=fun _ S=> .ok true S
theorem ip:nW X [] (EH X.K cl tU):=fun pins s σ H Q I ⟨ρ,S,δ,b,S',E,hf,q⟩=>u_ pins s σ H Q I (by cases hf;exact q ρ H (Pre.refl ρ H) E.sw)
theorem nB{e:Expr}{c:FB}(h:CI X cl e c):nW X [e] (EH X.K cl c):=uC h.1
theorem GU{K:PySem.W.Frag}{i:Nat}{f:FX}{D:Ends}{σ:L2.St}{H:Hp}(h:sX K cl (cn i f) D σ H):zG (tX K cl f) (qo i) D σ H:=by
 obtain⟨ρ,S,δ,o,S',E,hf,q⟩:=h
 obtain⟨v,S1,h1,h2⟩:=R3.aq hf
 obtain⟨hi,h3⟩:=R3.br h2
 cases h3
 refine⟨ρ,S,δ,v,_,E,h1,fun u ρ1 H1 p1 w1 r1=>?_⟩
 exact q _ ρ1 H1 p1 ((E.to p1 w1).set (by rw[←E.len];exact of_decide_eq_true hi) r1)
theorem ka{i:Nat}{x:Str}{pos' spos:Pos}{scope:Scope}{own:List Str}{kp:List Nat}{kn:List Str}{tg iter elt:Expr}{ifs:List Expr}{it:FA}{t:FG}{c:FB}{f:FX}{pos:Pos}(hc:X.calm=true)
 (hN:X.N.Nodup) (hx:X.N[i]? =some x) (hxl:X.env.scope.names.lookup x=some .local) (C:cq X scope own kp kn) (hi:GN X cl tg iter it)
 (hg:∀fp s H,G0 (bB X scope (own++kn) fp s H) cl tg t) (hif:∀fp s H,nW (bB X scope (own++kn) fp s H) ifs (EH X.K cl c)) (he:∀fp s H,PX (bB X scope (own++kn) fp s H) cl elt f)
 (hsw:swapsWith (.ListComp elt [⟨tg,iter,ifs,0⟩] scope pos) (some (.Name x pos')) spos.line X.env=pure true:=by rfl)
 (hs:∀x,foldedSetIterable iter X.env x=pure x:=by intro _;rfl):PZ X cl (.Assign [.Name x pos'] (.ListComp elt [⟨tg,iter,ifs,0⟩] scope pos) spos) (cn i (gS it t c f own kp)):=
 ⟨(qk hc hN hx hxl C hi.1 (fun fp s H=>(hg fp s H).1) hif (fun fp s H=>(he fp s H).1) hsw hs).imp fun D σ H h=>yD (GU h)⟩
noncomputable def L0(g:FA):FX:=fun δ S=>(g δ S).bind fun vs S1=>match j7 vs with
 | some ds=>R3.cc (decide (ds.length≤sizeLine)) (.ok (.loc S1.length) (S1++[.lst ds]))
 | none=> .no
end
end L3
end
section
set_option maxRecDepth 100000
set_option maxHeartbeats 4000000
namespace L3
open PySem PySem.Spec PyProof.Rows L2
section
variable {X:Cx} {cl:Nat→Addr}
noncomputable def k5(g:List D→R D)(fs:FA):FX:=fun δ S=>(fs δ S).bind fun vs S1=>match j7 vs with
 | some ds=>(R3.of (g ds) S1).bind fun d S=> .ok (.d d) S
 | none=> .no
theorem Bn{K:PySem.W.Frag}{g:List D→R D}{fs:FA}{σ:L2.St}{H:Hp}{Q:VK}(h:tX K cl (k5 g fs) σ H Q) :
 Kf K cl fs σ H fun vs H1=>∃B ds d,(∀a∈B,∃o,H1 a=some o)∧aH K B H1 ds vs∧g ds= .ok d∧∀z H',aU H1 H'→Rep K B H' d z→Q z H':=by
 obtain⟨ρ,S,δ,v,S',E,hf,q⟩:=h
 obtain⟨vs,S1,h1,h2⟩:=R3.aq hf
 split at h2
 ·rename_i ds e
  obtain⟨d,S2,h3,h4⟩:=R3.aq h2
  obtain⟨h5,e5⟩:=R3.of_ok h3
  cases h4
  subst e5
  refine⟨ρ,S,δ,vs,_,E,h1,fun us ρ1 H1 p1 w1 r1=>?_⟩
  rw[iu e] at r1
  exact⟨ρ1.b,ds,d,w1.bs,r1.to,h5,fun z H' s r=>q z ρ1 H' (p1.trans (Pre.same s)) (w1.same s) (by unfold bh;exact r)⟩
 ·cases h2
theorem vL{g:List D→R D}{x:Str}{id:String}{p pos:Pos}{e:Expr}{es:List Expr}{fs:FA}(hc:fq X (.builtin id) g)(hg:Gl X x)(hm:X.mg x=none)(hv:bootBuiltins x=some (.builtin id))(ha:Cm X cl (e ::es) fs)(hn:x≠"__name__":=by decide)(hdb:(x==("__debug__":Str))=false:=by decide)
 (he:starEach (e ::es) X.env=(false,eval e X.env) ::starEach es X.env:=by rfl) (hpl:(backTo pos (starEach es X.env)).any (·.1)=false:=by rfl):PX X cl (.Call (.Name x p) (e ::es) [] pos) (k5 g fs):=
 ⟨(vA hc.r hg hm hv ha.1 hn hdb he hpl).imp fun σ H Q h=>Bn h⟩
noncomputable def L7(c:FB)(f g:FX):FX:=fun δ S=>(c δ S).bind fun b S=>if b then f δ S else g δ S
theorem aA:∀(δ:DE) (S:aN) (ds:List V3) (S':aN),bH δ S= .ok ds S'→ds.length=0:=fun δ S ds S' h=>by cases h;rfl
theorem af{f:FX}{g:FA}{n:Nat}(h:∀(δ:DE) (S:aN) (ds:List V3) (S':aN),g δ S= .ok ds S'→ds.length=n):∀(δ:DE) (S:aN) (ds:List V3) (S':aN),aw f g δ S= .ok ds S'→ds.length=n+1:=fun δ S ds S' e=>by
 obtain⟨v,S1,h1,h2⟩:=R3.aq e
 obtain⟨vs,S2,h3,h4⟩:=R3.aq h2
 cases h4
 rw[List.length_cons,h δ S1 vs _ h3]
end
end L3
end
section
set_option maxRecDepth 100000
set_option maxHeartbeats 4000000
namespace L3
open PySem PySem.Spec PyProof.Rows L2
theorem se{K:PySem.W.Frag}{ρ:P3}{H:Hp}{ds:List V3}{xs:List V}{i:Int}{d:V3}(r:aG K ρ H ds xs)(h:o_ ds i=some d):∃x,o_ xs i=some x∧bh K ρ H d x:=by
 unfold o_ at h ⊢
 rw[←r.length]
 cases e:qa ds.length i with
 | none=>rw [e] at h;cases h
 | some j=>
   rw[e] at h
   exact r.get h
section
variable {X:Cx} {cl:Nat→Addr}
noncomputable def Cw(fa fb:FX):FX:=fun δ S=>(fa δ S).bind fun a S1=>(fb δ S1).bind fun b S2=>match a,b with
 | .d x, .d y=>(R3.of (cD x y) S2).bind fun d S=> .ok (.d d) S
 | .lst vs, .d (.int i)=>(match o_ vs i with | some v=> .ok v S2 | none=> .no)
 | .tup vs, .d (.int i)=>(match o_ vs i with | some v=> .ok v S2 | none=> .no)
 | _,_=> .no
theorem qB{a b:Expr}{fa fb:FX}{pos:Pos}(ha:PX X cl a fa)(hb:PX X cl b fb)(hs:pO b):PX X cl (.Subscript a b pos) (Cw fa fb):=by
 refine⟨(Ey (r:=JD X.K) B4 ha.1 hb.1 hs).imp fun σ H Q ⟨ρ,S,δ,v,S',E,hf,q⟩=>?_⟩
 obtain⟨v1,S1,h1,h2⟩:=R3.aq hf
 obtain⟨v2,S2,h3,h4⟩:=R3.aq h2
 refine⟨ρ,S,δ,v1,S1,E,h1,fun u1 ρ1 H1 p1 w1 r1=>⟨ρ1,S1,δ,v2,S2,E.to p1 w1,h3,fun u2 ρ2 H2 p2 w2 r2=>?_⟩⟩
 have r1':=r1.pre p2
 have p12:=p1.trans p2
 split at h4
 ·rename_i x y
  obtain⟨d,S3,h5,h6⟩:=R3.aq h4
  obtain⟨h7,e7⟩:=R3.of_ok h5
  cases h6
  subst e7
  unfold bh at r1' r2
  unfold cD at h7
  split at h7
  ·split at h7
   ·rename_i e
    cases h7
    obtain⟨p,xs,rfl,l,rs⟩:=Rep.lst.mp r1'
    obtain⟨y,e1,e2⟩:=nQ rs e
    exact .inl ⟨p,xs,_,y,rfl,Rep.int.mp r2,l.sq,e1,q y ρ2 H2 p12 w2 (by unfold bh;exact e2)⟩
   ·cases h7
  ·split at h7
   ·rename_i e
    cases h7
    obtain⟨p,xs,rfl,l,rs⟩:=Rep.tup.mp r1'
    obtain⟨y,e1,e2⟩:=nQ rs e
    exact .inr (.inl ⟨p,xs,_,y,rfl,Rep.int.mp r2,l.sq,e1,q y ρ2 H2 p12 w2 (by unfold bh;exact e2)⟩)
   ·cases h7
  ·obtain⟨hl,h8⟩:=R.br h7
   split at h8
   ·rename_i e
    cases h8
    exact .inr (.inr ⟨_,_,_,Rep.str.mp r1',Rep.int.mp r2,of_decide_eq_true hl,e,q _ ρ2 H2 p12 w2 (by unfold bh;exact Rep.str.mpr rfl)⟩)
   ·cases h8
  ·cases h7
 ·split at h4
  ·rename_i e
   cases h4
   unfold bh at r1' r2
   obtain⟨p,xs,rfl,l,rs⟩:=r1'
   obtain⟨y,e1,e2⟩:=se rs e
   exact .inl ⟨p,xs,_,y,rfl,Rep.int.mp r2,l.sq,e1,q y ρ2 H2 p12 w2 e2⟩
  ·cases h4
 ·split at h4
  ·rename_i e
   cases h4
   unfold bh at r1' r2
   obtain⟨p,xs,rfl,l,rs⟩:=r1'
   obtain⟨y,e1,e2⟩:=se rs e
   exact .inr (.inl ⟨p,xs,_,y,rfl,Rep.int.mp r2,l.sq,e1,q y ρ2 H2 p12 w2 e2⟩)
  ·cases h4
 ·cases h4
end
end L3
end
section
set_option maxRecDepth 100000
set_option maxHeartbeats 4000000
namespace L3
open PySem PySem.Spec PyProof.Rows L2
section
variable {X:Cx} {cl:Nat→Addr}
structure GZ (X:Cx) (cl:Nat→Addr) (e:Expr) (f:FB):Prop where
 go:L2.PW X e (EH X.K cl f)
theorem GZ.pb{e:Expr}{f:FB}(h:GZ X cl e f):CI X cl e f:=⟨L2.PW.pt h.1⟩
noncomputable def ER(f g:FB):FB:=fun δ S=>(f δ S).bind fun b S=>if b then g δ S else .ok false S
noncomputable def L_(f g:FB):FB:=fun δ S=>(f δ S).bind fun b S=>if b then .ok true S else g δ S
noncomputable def KD(f:FB):FB:=fun δ S=>(f δ S).bind fun b S=> .ok (!b) S
theorem BO{a:Expr}{f:FB}{pos:Pos}(h:CI X cl a f):GZ X cl (.BoolOp .And [a] pos) f:=⟨yu h.1⟩
theorem DU{a b:Expr}{rest:List Expr}{f g:FB}{pos:Pos}(ha:CI X cl a f)(hb:GZ X cl (.BoolOp .And (b ::rest) pos) g):GZ X cl (.BoolOp .And (a ::b ::rest) pos) (ER f g):=⟨by
 intro wh pins s σ H Q I ⟨ρ,S,δ,k,S',E,hf,q⟩
 refine Ap ha.1 hb.1 wh pins s σ H Q I ?_
 obtain⟨c,S1,h1,h2⟩:=R3.aq hf
 refine⟨ρ,S,δ,c,S1,E,h1,fun ρ1 H1 p1 w1=>?_⟩
 cases c with
 | true=>rw [if_pos rfl] at h2 ⊢;exact⟨ρ1,S1,δ,k,S',E.to p1 w1,h2,fun ρ2 H' p2 w2=>q ρ2 H' (p1.trans p2) w2⟩
 | false=>rw [if_neg (by decide)] at h2 ⊢;cases h2;exact q ρ1 H1 p1 w1⟩
noncomputable def K2(f:FX):FB:=fun δ S=>(f δ S).bind fun v S=>match v with | .d d=>R3.of (pW d) S | _=> .no
noncomputable abbrev Iu:=DE→aN→R3 (Option Int)
noncomputable def Lk(K:PySem.W.Frag)(cl:Nat→Addr)(f:Iu):TO:=fun σ H Q=>∃ρ S δ o S',fg K cl ρ H S σ δ∧f δ S= .ok o S'∧∀ρ' H',Pre ρ H ρ' H'→SW K cl ρ' H' S'→Q o H'
structure L4 (X:Cx) (cl:Nat→Addr) (e:Option Expr) (f:Iu):Prop where
 go:PO X e (Lk X.K cl f)
noncomputable def Js:Iu:=fun _ S=> .ok none S
noncomputable def Je(f:FX):Iu:=fun δ S=>(f δ S).bind fun v S=>match v with | .d (.int i)=> .ok (some i) S | _=> .no
noncomputable def LZ(f:FX)(fl fh:Iu):FX:=fun δ S=>(f δ S).bind fun v S1=>(fl δ S1).bind fun lo S2=>(fh δ S2).bind fun hi S3=>match v with
 | .d d=>(R3.of (FK d lo hi) S3).bind fun r S=> .ok (.d r) S
 | _=> .no
end
end L3
end
section
set_option maxRecDepth 100000
set_option maxHeartbeats 4000000
namespace L2
open PySem PySem.Spec PyProof.Rows
section
variable {X:Cx}
noncomputable def ql(t T:String):Bool:=t==T || (t=="bool" && T=="int")
noncomputable def um(T:String)(f:FD):FD:=fun δ=>(f δ).bind fun d=>match d with | .dct _ _=> .no | _=> .ok (.bl (ql (tyName d) T))
noncomputable def nList(f:FD):ax→R (List D):=fun δ=>(f δ).bind fun d=>match d with | .lst ds=> .ok ds | .tup ds=> .ok ds | _=> .no
end
end L2
namespace L3
open PySem PySem.Spec PyProof.Rows L2
theorem bM{P:Program}{w:World}{K:PySem.W.Frag}{mg:Str→Option Value}{base:Heap}{cl:Nat→Addr}{x qual:Str}{st:Stmt}{f:Addr}{fd:FuncData}{N ps:List Str}{k:Nat}{F:FZ}{b:List Stmt}{sc:Scope}(hb:ao st=b)(hs:ag st=sc)(Fn:yq K x qual st f fd)(S:aV N ps sc)
 (hbody:∀(cdv:Value) (A:Around) (outer:List Env) (s:Shared) (H:Hp) (E:XK),et k (A.deeper (envOfC qual sc s.heap.objs.size f cdv))→
   zY (qP rq P w K mg base N qual sc f cdv A outer s H E).D6 cl b F):ig P w K mg base rq (k+1) f fd ps (Au K cl ps.length (kJ N F)):=by
 subst hb hs
 exact DZ Fn S hbody
theorem az.p{P:Program}{w:World}{K:PySem.W.Frag}{mg:Str→Option Value}{base:Heap}{cl:Nat→Addr}{k:Nat}{x:Str}{n:Nat}{N:List Str}{F:FZ}(C:az P w K mg base cl k x n (kJ N F)):az P w K mg base cl k x n (lU N F):=
 let⟨f,fd,ps,F,h⟩:=C;⟨f,fd,ps,F.imp fun _ _ _ _ h=>wJ h,h⟩
noncomputable def IX(N:List Str)(F:FZ):List D→R D:=fun ds=>match lU N F (ds.map .d) [] with
 | .ok (.d d) []=>R.cc d.atom (.ok d)
 | _=> .no
theorem EG{K:PySem.W.Frag}{cl:Nat→Addr}{N:List Str}{F:FZ}{n:Nat}{vs:List V}{H:Hp}{Q:VK}{E:XK}(h:Bw K n (IX N F) vs H Q E):Au K cl n (kJ N F) vs H Q E:=by
 obtain⟨hl,B,ds,d,hb,r,hg,q⟩:=h
 unfold IX at hg
 split at hg
 ·rename_i d' e
  obtain⟨ha,h2⟩:=R.br hg
  cases h2
  have r0:aH K (⟨[],[],[]⟩:P3).b H ds vs:=r.bq fun b o e _=>⟨e,by simp [P3.b]⟩
  refine wJ ⟨hl,⟨[],[],[]⟩,[],ds.map .d, .d d,[],⟨rfl,fun i j a hi=>by simp at hi,fun k a o hk=>by simp at hk,fun b hb=>by simp at hb,fun k a hk=>by simp at hk,fun b hb=>by simp at hb,fun k a hk=>by simp at hk⟩,aG.of r0,e,fun u ρ' H' p w' r'=>q u H' (fun b o eb=>?_) ?_⟩
  ·exact(p.bq b o eb (by simp [P3.b])).1
  ·unfold bh at r'
   exact r'.atom ha
 ·cases hg
section
variable {X:Cx} {cl:Nat→Addr}
theorem uO{g:List D→R D}{k j n:Nat}{x:Str}{p pos:Pos}{e:Expr}{es:List Expr}{fs:FA}(C:Callee X.prog X.w X.K X.mg X.base k x n g)(hr:et j X.A)(hkj:k≤j)(hg:Gl X x)(ha:Cm X cl (e ::es) fs)
 (hn:∀δ S ds S',fs δ S= .ok ds S'→ds.length=n) (hdb:(x==("__debug__":Str))=false:=by decide) (he:starEach (e ::es) X.env=(false,eval e X.env) ::starEach es X.env:=by rfl) (hpl:(backTo pos (starEach es X.env)).any (·.1)=false:=by rfl) :
 PX X cl (.Call (.Name x p) (e ::es) [] pos) (k5 g fs):=by
 obtain⟨f,fd,ps,F,hm,hk,hb⟩:=C
 refine⟨(tF F (hr.mono hkj) hg hm hk hb .nil uh ha.1 hdb he hpl).imp fun σ H Q ⟨ρ,S,δ,v,S',E,hf,q⟩=>?_⟩
 obtain⟨vs,S1,h1,h2⟩:=R3.aq hf
 split at h2
 ·rename_i ds e
  obtain⟨d,S2,h3,h4⟩:=R3.aq h2
  obtain⟨h5,e5⟩:=R3.of_ok h3
  cases h4
  subst e5
  refine⟨ρ,S,δ,vs,_,E,h1,fun us ρ1 H1 p1 w1 r1=>?_⟩
  have hl:=hn δ S vs _ h1
  rw[iu e] at r1
  show Bw X.K n g (us++[]) H1 Q E0
  rw[List.append_nil]
  exact⟨by rw[←r1.length,←iu e];exact hl,ρ1.b,ds,d,w1.bs,r1.to,h5,fun z H' s r=>q z ρ1 H' (p1.trans (Pre.same s)) (w1.same s) (by unfold bh;exact r)⟩
 ·cases h2
noncomputable def JU(f:FX):FA:=fun δ S=>(f δ S).bind fun v S=>match v with | .d (.tup ds)=> .ok (ds.map .d) S | .tup vs=> .ok vs S | _=> .no
end
end L3
end
section
set_option maxRecDepth 100000
set_option maxHeartbeats 4000000
namespace L3
open PySem PySem.Spec PyProof.Rows L2
noncomputable def W3{α:Type}(r:R3 α)(Q:α→aN→Prop):Prop:=∃a S,r= .ok a S∧Q a S
section
variable {α β:Type} {Q Q':α→aN→Prop} {S:aN} {δ:DE}
theorem W3.ok{a:α}(h:Q a S):W3 (.ok a S) Q:=⟨a,S,rfl,h⟩
theorem W3.bind{Q:β→aN→Prop}{r:R3 α}{f:α→aN→R3 β}(h:W3 r fun a S=>W3 (f a S) Q):W3 (r.bind f) Q:=by
 obtain⟨a,S1,e1,b,S2,h2,q⟩:=h
 exact⟨b,S2,by rw[e1];exact h2,q⟩
theorem W3.mono{r:R3 α}(h:W3 r Q)(m:∀a S,Q a S→Q' a S):W3 r Q':=let⟨a,S,e,q⟩:=h;⟨a,S,e,m a S q⟩
theorem W3.eq{r:R3 α}{a:α}{S':aN}(e:r= .ok a S')(h:Q a S'):W3 r Q:=⟨a,S',e,h⟩
theorem W3.wh{c:Bool}{r:R3 α}(hc:c=true)(h:W3 r Q):W3 (R3.cc c r) Q:=by rw[hc];exact h
theorem W3.of{r:R α}{a:α}(e:r= .ok a)(h:Q a S):W3 (R3.of r S) Q:=by rw[e];exact⟨a,S,rfl,h⟩
end
section
variable {S:aN} {δ:DE} {QV:V3→aN→Prop} {QB:Bool→aN→Prop} {QA:List V3→aN→Prop} {QO:Ou→aN→Prop}
theorem cA{f:FD}{d:D}(e:f (down δ)= .ok d)(h:QV (.d d) S):W3 (xP f δ S) QV:=W3.bind (W3.of e (W3.ok h))
theorem tG{f:FD}{d:D}(e:f (bY S δ)= .ok d)(ha:kx d=true)(h:QV (.d d) S):W3 (xT f δ S) QV:=W3.bind (W3.of e (W3.wh ha (W3.ok h)))
theorem vz{f:ax→R Bool}{b:Bool}(e:f (down δ)= .ok b)(h:QB b S):W3 (bP f δ S) QB:=W3.of e h
theorem Fb{f:ax→R Bool}{b:Bool}(e:f (bY S δ)= .ok b)(h:QB b S):W3 (bT f δ S) QB:=W3.of e h
theorem w_var{i:Nat}{v:V3}(e:δ[i]? =some (some v))(h:QV v S):W3 (bC i δ S) QV:=by unfold bC;rw [e];exact W3.ok h
theorem iC{f:ax→R (List D)}{ds:List D}(e:f (down δ)= .ok ds)(h:QV (.loc S.length) (S++[.lst ds])):W3 (kY f δ S) QV:=W3.bind (W3.of e (W3.ok h))
theorem bS(h:QA [] S):W3 (bH δ S) QA:=W3.ok h
theorem ay{f:FX}{g:FA}(h:W3 (f δ S) fun v S1=>W3 (g δ S1) fun vs S2=>QA (v ::vs) S2):W3 (aw f g δ S) QA:=W3.bind (h.mono fun _ _ h=>W3.bind (h.mono fun _ _ h=>W3.ok h))
theorem sN{g:FA}(h:W3 (g δ S) fun vs S1=>vs.length≤sizeLine∧QV (ky vs) S1):W3 (ve g δ S) QV:=W3.bind (h.mono fun _ _ h=>W3.wh (decide_eq_true h.1) (W3.ok h.2))
theorem Hj{g:FA}(h:W3 (g δ S) fun vs S1=>vs.length≤sizeLine∧QV (iL vs) S1):W3 (GR g δ S) QV:=W3.bind (h.mono fun _ _ h=>W3.wh (decide_eq_true h.1) (W3.ok h.2))
theorem zV{g:D→D→R D}{fa fb:FX}(h:W3 (fa δ S) fun a S1=>W3 (fb δ S1) fun b S2=>∃x y d,a= .d x∧b= .d y∧g x y= .ok d∧QV (.d d) S2):W3 (x2 g fa fb δ S) QV:=
 W3.bind (h.mono fun _ _ h=>W3.bind (h.mono fun _ _ ⟨_,_,_,e1,e2,e3,q⟩=>by subst e1 e2;exact W3.bind (W3.of e3 (W3.ok q))))
theorem Hx{g:D→D→R D}{fa fb:FX}(h:W3 (fa δ S) fun a S1=>W3 (fb δ S1) fun b S2=>∃x y k,a= .d x∧b= .d y∧g x y= .ok (.bl k)∧QB k S2):W3 (Hw g fa fb δ S) QB:=
 W3.bind (zV (h.mono fun _ _ h=>h.mono fun _ _ ⟨x,y,k,e1,e2,e3,q⟩=>⟨x,y, .bl k,e1,e2,e3,W3.ok q⟩))
theorem yY{fa fb:FX}(h:W3 (fa δ S) fun a S1=>W3 (fb δ S1) fun b S2=>∃x y d,a= .d x∧b= .d y∧cD x y= .ok d∧QV (.d d) S2):W3 (Cw fa fb δ S) QV:=
 W3.bind (h.mono fun _ _ h=>W3.bind (h.mono fun _ _ ⟨_,_,_,e1,e2,e3,q⟩=>by subst e1 e2;exact W3.bind (W3.of e3 (W3.ok q))))
theorem dc{g:List V3→aN→R3 V3}{fs:FA}(h:W3 (fs δ S) fun vs S1=>W3 (g vs S1) QV):W3 (bO g fs δ S) QV:=W3.bind h
theorem pG{g:List D→R D}{fs:FA}(h:W3 (fs δ S) fun vs S1=>∃ds d,vs=ds.map .d∧g ds= .ok d∧QV (.d d) S1):W3 (k5 g fs δ S) QV:=
 W3.bind (h.mono fun _ _ ⟨ds,_,e1,e2,q⟩=>by subst e1;rw [p6];exact W3.bind (W3.of e2 (W3.ok q)))
theorem Fs{it:FA}{t:FG}{c:FB}{f:FX}{own:List Str}{kp:List Nat}(h:W3 (it δ S) fun vs S1=>vs.length≤sizeLine∧W3 (lP t c f (fY own kp δ) vs S1) fun ys S2=>QV (iL ys) S2):W3 (gS it t c f own kp δ S) QV:=
 W3.bind (h.mono fun _ _ h=>W3.wh (decide_eq_true h.1) (W3.bind (h.2.mono fun _ _ h=>W3.ok h)))
theorem aS{F G:FZ}(h:W3 (F δ S) fun o S1=>∃δ1,o= .nx δ1∧W3 (G δ1 S1) QO):W3 (bu F G δ S) QO:=W3.bind (h.mono fun _ _ ⟨_,e,h⟩=>by subst e;exact h)
theorem EL{F G:FZ}(h:W3 (F δ S) fun o S1=>∃v,o= .rt v∧QO (.rt v) S1):W3 (bu F G δ S) QO:=W3.bind (h.mono fun _ _ ⟨_,e,h⟩=>by subst e;exact W3.ok h)
theorem bz{i:Nat}{f:FX}(hi:i < δ.length)(h:W3 (f δ S) fun v S1=>QO (.nx (δ.set i (some v))) S1):W3 (cn i f δ S) QO:=W3.bind (h.mono fun _ _ h=>W3.wh (decide_eq_true hi) (W3.ok h))
theorem ef{f:FX}(h:W3 (f δ S) fun v S1=>QO (.rt v) S1):W3 (gK f δ S) QO:=W3.bind (h.mono fun _ _ h=>W3.ok h)
theorem q8{c:FB}{F G:FZ}(h:W3 (c δ S) fun b S1=>if b then W3 (F δ S1) QO else W3 (G δ S1) QO):W3 (xW c F G δ S) QO:=W3.bind (h.mono fun b _ h=>by cases b <;> exact h)
theorem oj(h:QO (.nx δ) S):W3 (qz δ S) QO:=W3.ok h
theorem lO{f:ax→R (List D)}{ds:List D}(e:f (down δ)= .ok ds)(h:QA (ds.map .d) S):W3 (iP f δ S) QA:=W3.bind (W3.of e (W3.ok h))
theorem mR{f:FX}(h:W3 (f δ S) fun v S1=>∃n:Nat,v= .d (.int n)∧n < 1000000∧QA ((cH 0 n).map .d) S1):W3 (k8 f δ S) QA:=W3.bind (h.mono fun _ _ ⟨n,e,hn,q⟩=>by
 subst e
 refine W3.wh (decide_eq_true ⟨by omega,by omega⟩) (W3.ok ?_)
 rw[Int.toNat_natCast];exact q)
theorem nK{f:FX}(h:W3 (f δ S) fun v S1=>∃ds,v= .d (.lst ds)∧QA (ds.map .d) S1):W3 (vd f δ S) QA:=W3.bind (h.mono fun _ _ ⟨n,e,q⟩=>by subst e;exact W3.ok q)
theorem f7{it:FA}{t:FG}{F:FZ}(h:W3 (it δ S) fun vs S1=>W3 (kF t F vs δ S1) QO):W3 (jt it t F δ S) QO:=W3.bind h
theorem gW{i k:Nat}{f:FX}(hk:δ[i]? =some (some (.loc k)))(h0:∃ds,S[k]? =some (.lst ds))(h:W3 (f δ S) fun v S1=>∃d ds,v= .d d∧S1[k]? =some (.lst ds)∧ds.length < sizeLine∧QO (.nx δ) (S1.set k (.lst (ds++[d])))):W3 (il i f δ S) QO:=by
 obtain⟨es,h0⟩:=h0
 unfold il
 have e1:gz δ i=some k:=by unfold gz;rw [hk]
 have e2:c_ S k=some es:=by unfold c_;simp only[h0]
 rw[e1];show W3 (match c_ S k with | none=>_ | some _=>_) _
 rw[e2]
 refine W3.bind (h.mono fun v S1 ⟨d,ds,e,h1,hl,q⟩=>?_)
 subst e
 have e3:c_ S1 k=some ds:=by unfold c_;simp only[h1]
 show W3 (match c_ S1 k with | some ds=>_ | none=>_) _
 rw[e3]
 exact W3.wh (decide_eq_true hl) (W3.ok q)
theorem BK{fo fi fe:FX}(h:W3 (fe δ S) fun v S1=>W3 (fo δ S1) fun o S2=>W3 (fi δ S2) fun j S3=>∃d k n ds m,v= .d d∧o= .loc k∧j= .d (.int n)∧S3[k]? =some (.lst ds)∧qa ds.length n=some m∧QO (.nx δ) (S3.set k (.lst (ds.set m d)))):W3 (wD fo fi fe δ S) QO:=
 W3.bind (h.mono fun _ _ h=>W3.bind (h.mono fun _ _ h=>W3.bind (h.mono fun _ S3 ⟨d,k,n,ds,m,e1,e2,e3,h1,h2,q⟩=>by
  subst e1 e2 e3
  have e3:c_ S3 k=some ds:=by unfold c_;simp only[h1]
  show W3 (match c_ S3 k with | some ds=>_ | none=>_) _
  rw[e3]
  show W3 (match qa ds.length n with | some m=>_ | none=>_) _
  rw[h2]
  exact W3.ok q)))
theorem qQ{t:FG}{body:FZ}:∀(vs:List V3) (n:Nat) (P:Nat→DE→aN→Prop) {δ:DE} {S:aN},P n δ S→
 (∀i v δ S,vs[i]? =some v→P (n+i) δ S→∃δ1,t v δ=some δ1∧W3 (body δ1 S) fun o S1=>∃δ2,o= .nx δ2∧P (n+i+1) δ2 S1)→W3 (kF t body vs δ S) fun o S1=>∃δ2,o= .nx δ2∧P (n+vs.length) δ2 S1
 | [],n,P,δ,S,h0,_=>W3.ok ⟨δ,rfl,h0⟩
 | v ::vs,n,P,δ,S,h0,hs=>by
   obtain⟨δ1,e1,o,S1,e2,δ2,rfl,p2⟩:=hs 0 v δ S rfl h0
   have ih:=qQ vs (n+1) P p2 (fun i v' δ' S' hi hp=>by
    have:=hs (i+1) v' δ' S' (by simpa using hi) (by rw[show n+(i+1)=n+1+i by omega];exact hp)
    rw[show n+(i+1)+1=n+1+i+1 by omega] at this
    exact this)
   rw[show n+1+vs.length=n+(v ::vs).length by rw[List.length_cons];omega] at ih
   unfold kF
   rw[e1]
   refine W3.bind ⟨_,_,e2,?_⟩
   exact ih
theorem cv{t:FG}{body:FZ}{vs:List V3}(P:Nat→DE→aN→Prop){δ:DE}{S:aN}(h0:P 0 δ S)
 (hs:∀i v δ S,vs[i]? =some v→P i δ S→∃δ1,t v δ=some δ1∧W3 (body δ1 S) fun o S1=>∃δ2,o= .nx δ2∧P (i+1) δ2 S1):W3 (kF t body vs δ S) fun o S1=>∃δ2,o= .nx δ2∧P vs.length δ2 S1:=by
 have:=qQ (t:=t) (body:=body) vs 0 P h0 (fun i v δ S hi hp=>by simpa using hs i v δ S hi (by simpa using hp))
 simpa using this
theorem qf{t:FG}{c:FB}{f:FX}{δ:DE}:∀(vs:List V3) (n:Nat) (P:Nat→List V3→aN→Prop) {ys:List V3} {S:aN},P n ys S→
 (∀i v ys S,vs[i]? =some v→P (n+i) ys S→∃δ1,t v δ=some δ1∧W3 (c δ1 S) fun b S1=>if b then W3 (f δ1 S1) fun y S2=>P (n+i+1) (ys++[y]) S2 else P (n+i+1) ys S1)→W3 (lP t c f δ vs S) fun zs S1=>P (n+vs.length) (ys++zs) S1
 | [],n,P,ys,S,h0,_=>W3.ok (by rw[List.append_nil];exact h0)
 | v ::vs,n,P,ys,S,h0,hs=>by
   obtain⟨δ1,e1,b,S1,e2,h2⟩:=hs 0 v ys S rfl h0
   have ih:∀{ys' S'},P (n+1) ys' S'→W3 (lP t c f δ vs S') fun zs S1=>P (n+(v ::vs).length) (ys'++zs) S1:=fun {ys' S'} p=>by
    have:=qf (t:=t) (c:=c) (f:=f) (δ:=δ) vs (n+1) P p (fun i v' ys' S' hi hp=>by
     have:=hs (i+1) v' ys' S' (by simpa using hi) (by rw[show n+(i+1)=n+1+i by omega];exact hp)
     rw[show n+(i+1)+1=n+1+i+1 by omega] at this
     exact this)
    rw[show n+1+vs.length=n+(v ::vs).length by rw[List.length_cons];omega] at this
    exact this
   unfold lP
   rw[e1]
   refine W3.bind ⟨b,S1,e2,?_⟩
   cases b with
   | true=>
     rw[if_pos rfl] at h2 ⊢
     exact W3.bind (h2.mono fun y S2 p=>W3.bind ((ih p).mono fun zs S3 q=>W3.ok (by rw[List.append_assoc] at q;exact q)))
   | false=>rw [if_neg (by decide)] at h2 ⊢;exact ih h2
theorem zg{t:FG}{c:FB}{f:FX}{δ:DE}{vs:List V3}(P:Nat→List V3→aN→Prop){S:aN}(h0:P 0 [] S)
 (hs:∀i v ys S,vs[i]? =some v→P i ys S→∃δ1,t v δ=some δ1∧W3 (c δ1 S) fun b S1=>if b then W3 (f δ1 S1) fun y S2=>P (i+1) (ys++[y]) S2 else P (i+1) ys S1):W3 (lP t c f δ vs S) fun zs S1=>P vs.length zs S1:=by
 have:=qf (t:=t) (c:=c) (f:=f) (δ:=δ) vs 0 P h0 (fun i v ys S hi hp=>by simpa using hs i v ys S hi (by simpa using hp))
 simpa using this
theorem sF{QB:Bool→aN→Prop}(h:QB true S):W3 (tU δ S) QB:=W3.ok h
theorem qX{N:List Str}{F:FZ}{vs:List V3}{δ:DE}(e:bG N vs=δ)(h:W3 (F δ S) fun o S1=>∃v,o= .rt v∧QV v S1):W3 (kJ N F vs S) QV:=by
 subst e
 exact W3.bind (h.mono fun _ _ ⟨_,e,q⟩=>by subst e;exact W3.ok q)
noncomputable def Kv(S:aN):Prop:=∀o∈S,∃ds,o=SO.lst ds
end
end L3
namespace L3
open PySem PySem.Spec PyProof.Rows L2
section
variable {S:aN} {δ:DE} {QV:V3→aN→Prop}
theorem h_{it:FA}{t:FG}{c:FB}{f:FX}{own:List Str}{kp:List Nat}(P:Nat→List D→aN→Prop)(h:W3 (it δ S) fun vs S1=>vs.length≤sizeLine∧P 0 [] S1∧
 (∀i v ds S2,vs[i]? =some v→P i ds S2→∃δ1,t v (fY own kp δ)=some δ1∧W3 (c δ1 S2) fun b S3=>if b then W3 (f δ1 S3) fun y S4=>∃d,y= .d d∧P (i+1) (ds++[d]) S4 else P (i+1) ds S3)∧
 ∀ds S2,P vs.length ds S2→QV (.d (.lst ds)) S2):W3 (gS it t c f own kp δ S) QV:=by
 refine Fs (h.mono fun vs S1 ⟨hl,h0,hs,hq⟩=>⟨hl,?_⟩)
 refine(zg (fun i ys S=>∃ds,ys=ds.map V3.d∧P i ds S) ⟨[],rfl,h0⟩ ?_).mono fun zs S2 ⟨ds,e,p⟩=>?_
 ·rintro i v ys S2 hv ⟨ds,rfl,p⟩
  obtain⟨δ1,e1,h1⟩:=hs i v ds S2 hv p
  refine⟨δ1,e1,h1.mono fun b S3 h3=>?_⟩
  cases b with
  | true=>
    rw[if_pos rfl] at h3 ⊢
    exact h3.mono fun y S4 ⟨d,e,p⟩=>by subst e;exact⟨ds++[d],by simp,p⟩
  | false=>rw [if_neg (by decide)] at h3 ⊢;exact⟨ds,rfl,h3⟩
 ·subst e
  unfold iL
  rw[p6]
  exact hq ds S2 p
structure gy (n:Nat) (d:D):Prop where
 pl:eD d=true
 ly:(toPy d).canLay0=true
 dp:(toPy d).depth≤n
theorem gy.int(i:Int):gy 0 (.int i):=⟨by unfold eD;rfl,by unfold toPy PyData.canLay0;rfl,by unfold toPy PyData.depth;omega⟩
theorem gy.bl(b:Bool):gy 0 (.bl b):=⟨by unfold eD;rfl,by unfold toPy PyData.canLay0;rfl,by unfold toPy PyData.depth;omega⟩
theorem gy.str{s:Str}(h:(PyData.str s).canLay0=true):gy 0 (.str s):=⟨by unfold eD;rfl,by unfold toPy;exact h,by unfold toPy PyData.depth;omega⟩
theorem gy.mono{n m:Nat}{d:D}(h:gy n d)(hm:n≤m):gy m d:=⟨h.pl,h.ly,Nat.le_trans h.dp hm⟩
theorem gy.all{n:Nat}:∀{ds:List D},(∀d∈ds,gy n d)→jn ds=true∧PyData.canLayAll0 (kz ds)=true∧PyData.depthAll (kz ds)≤n
 | [],_=>⟨by unfold jn;rfl,by unfold kz PyData.canLayAll0;rfl,by unfold kz PyData.depthAll;omega⟩
 | d ::ds,h=>by
   obtain⟨h1,h2,h3⟩:=gy.all (ds:=ds) fun x hx=>h x (List.mem_cons_of_mem _ hx)
   have f:=h d List.mem_cons_self
   refine⟨by unfold jn;rw [f.pl,h1];rfl,by unfold kz PyData.canLayAll0;rw [f.ly,h2];rfl,?_⟩
   unfold kz PyData.depthAll
   have:=f.dp
   omega
theorem gy.lst{n:Nat}{ds:List D}(h:∀d∈ds,gy n d):gy (n+1) (.lst ds):=by
 obtain⟨h1,h2,h3⟩:=gy.all h
 exact⟨by unfold eD;exact h1,by unfold toPy PyData.canLay0;exact h2,by unfold toPy PyData.depth;omega⟩
theorem gy.tup{n:Nat}{ds:List D}(h:∀d∈ds,gy n d):gy (n+1) (.tup ds):=by
 obtain⟨h1,h2,h3⟩:=gy.all h
 exact⟨by unfold eD;exact h1,by unfold toPy PyData.canLay0;exact h2,by unfold toPy PyData.depth;omega⟩
theorem gy.sh{n:Nat}{d:D}(h:gy n d)(hn:n≤64):SeqAt.shaped (toPy d)=true:=by
 unfold SeqAt.shaped
 rw[h.ly,decide_eq_true (Nat.le_trans h.dp hn)]
 rfl
theorem wR{d e:List D}:Cs (.lst d) (.lst e)=R.cc (eD (.lst d) && eD (.lst e) && SeqAt.shaped (toPy (.lst d)) && SeqAt.shaped (toPy (.lst e))) (.ok (PyData.eqv (toPy (.lst d)) (toPy (.lst e)))):=rfl
theorem Ff{d e:List D}:Cs (.tup d) (.tup e)=R.cc (eD (.tup d) && eD (.tup e) && SeqAt.shaped (toPy (.tup d)) && SeqAt.shaped (toPy (.tup e))) (.ok (PyData.eqv (toPy (.tup d)) (toPy (.tup e)))):=rfl
theorem gy.eqT{n:Nat}{ds:List D}(h:gy n (.tup ds))(hn:n≤64):Cs (.tup ds) (.tup ds)= .ok true:=by
 rw[Ff,h.pl,h.sh hn,SeqAt.eqv_refl _ h.ly]
 rfl
theorem gy.K0{n:Nat}{ds:List D}(h:gy n (.lst ds))(hn:n≤64):Cs (.lst ds) (.lst ds)= .ok true:=by
 rw[wR,h.pl,h.sh hn,SeqAt.eqv_refl _ h.ly]
 rfl
end
end L3
namespace L3
open PySem PySem.Spec PyProof.Rows L2
end L3
end
section
set_option maxRecDepth 100000
set_option maxHeartbeats 4000000
namespace L2
open PySem PySem.Spec PyProof.Rows
section
variable {X:Cx}
noncomputable def AU:D→Bool | .cS=>true | _=>false
noncomputable def IT(d e:D):R D:=match e with | .cS=> .ok (.bl (AU d)) | _=> .no
noncomputable def KZ(d e:D):R D:=match e with | .cS=> .ok (.bl (!AU d)) | _=> .no
theorem DJ{K:PySem.W.Frag}{B:List Addr}{H:Hp}{d:D}{x:V}(r:Rep K B H d x):decide (x= .cS)=AU d:=by
 cases d with
 | cS=>rw [Rep.cS.mp r];rfl
 | bl b=>rw [Rep.bl.mp r];rfl
 | int b=>rw [Rep.int.mp r];rfl
 | str b=>rw [Rep.str.mp r];rfl
 | lst ds=>obtain⟨a,xs,rfl,_⟩:=Rep.lst.mp r;rfl
 | tup ds=>obtain⟨a,xs,rfl,_⟩:=Rep.tup.mp r;rfl
 | dct ks ds=>unfold Rep at r;obtain⟨a,xs,rfl,_⟩:=r;rfl
theorem JZ:kI X (compareOp .Is) IT:=kI.of FY fun B H da db d x y Q _ ra rb hg q=>by
 unfold IT at hg
 split at hg
 ·cases hg
  exact⟨Rep.cS.mp rb,by rw[DJ ra];exact q _ H (aU.refl H) (Rep.bl.mpr rfl)⟩
 ·cases hg
noncomputable def HI:List D→R D
 | [.str x]=>R.cc (decide (x.length≤640)) (match PySem.intText? x with | some n=> .ok (.int n) | none=> .no)
 | _=> .no
noncomputable def Ke(ds:List D):R D:=match ds with | [.str _]=>HI ds | _=>cInt ds
noncomputable def F0(f:FD):FD:=fun δ=>(f δ).bind fun d=>match d with | .int i=> .ok (.int (-i)) | _=> .no
theorem x_{a:Expr}{f:FD}{pos:Pos}(h:QD X a f):QD X (.UnaryOp .USub a pos) (F0 f):=⟨(Ib ES h.1).imp fun σ H Q ⟨Z,B,δ,d,E,hf,q⟩=>by
 obtain⟨d1,h1,h2⟩:=R.aq hf
 split at h2
 ·cases h2
  exact⟨Z,B,δ,_,E,h1,fun v H1 s1 r1=>⟨_,Rep.int.mp r1,q _ H1 s1 (Rep.int.mpr rfl)⟩⟩
 ·cases h2⟩
noncomputable def x5(d:D)(ds:List D):R D:=match d,ds with
 | .str x,[.str y]=> .ok (.int (Txt.find x y))
 | _,_=> .no
theorem m_find:He X "str.find" x5:=by
 intro pins s σ H B da d ds x xs v us I hb rx rxs ra rs hg
 unfold x5 at hg
 split at hg
 ·cases hg
  rw[Rep.str.mp ra] at rx
  obtain⟨t,rfl⟩:=rx
  obtain⟨y,rfl,r⟩:=rs.one
  rw[Rep.str.mp r] at rxs
  obtain⟨u,rfl,ru⟩:=vals1 rxs
  obtain⟨t2,rfl⟩:=ru
  exact PySem.SC.find ⟨.int _,H,I.tok _,⟨_,rfl⟩,aU.refl H,Rep.int.mpr rfl⟩
 ·cases hg
theorem BU{o e:Expr}{f:FD}{fs:ax→R (List D)}{apos cpos:Pos}(ho:QD X o f)(ha:Cu X [e] fs)
 (hbase:attributeBase o "find" X.env (eval o X.env)=eval o X.env:=by rfl)
 (hfew:((backTo cpos (starEach [e] X.env)).all (fun x=>!x.1) && (backToKw cpos (keywordEach [] X.env)).all (fun x=>x.1.isSome)
   && decide (([e]:List Expr).length+([]:List Keyword).length+(if([]:List Keyword).isEmpty then 0 else 1) < 30))=true:=by rfl)
 (hline:(apos.endLine==cpos.line)=true:=by rfl) (hs:starEach [e] X.env=(false,eval e X.env) ::starEach [] X.env:=by rfl) :
 QD X (.Call (.Attribute o "find" apos) [e] [] cpos) (sf "str" x5 f fs):=⟨Er F.plainAttrs_str F.slot_str_find F.type_str_find m_find ho.1 ha.1 (.inl rfl) hbase hfew hline hs⟩
noncomputable def KA(kvs:List (Str × Str)):D:= .dct (kvs.map fun p=>Sum.inr p.1) (kvs.map fun p=> .str p.2)
noncomputable def LV(kvs:List (Str × Str)):List (Key × V):=kvs.map fun p=>((Sum.inr p.1:Key),V.str p.2)
noncomputable def K8(d k:D):R D:=match d,k with
 | .dct ks ds, .str x=>(match (ks.zip ds).find? fun p=>decide (p.1=Sum.inr x) with | some p=> .ok p.2 | none=> .no)
 | _,_=> .no
end
theorem Ik{P:Program}{w:World}{K:PySem.W.Frag}{mg:Str→Option Value}{base:Heap}{k n:Nat}{f:Addr}{fd:FuncData}{ps:List Str}:ig P w K mg base rq k f fd ps (Bw K n fun _=> .no):=
 ⟨fun vs H Q E h=>(by obtain⟨_,_,_,_,_,_,h,_⟩:=h;cases h),fun A outer s H args us vs Q E _ _ _ _ h=>(by obtain⟨_,_,_,_,_,_,h,_⟩:=h;cases h)⟩
end L2
namespace L3
open PySem PySem.Spec PyProof.Rows L2
section
variable {X:Cx} {cl:Nat→Addr}
noncomputable def JV(f:FX):FB:=fun δ S=>(f δ S).bind fun v S=>match v with | .d (.bl b)=> .ok b S | _=> .no
theorem Ft{f:FX}{δ:DE}{S S':aN}{b:Bool}(h:JV f δ S= .ok b S'):f δ S= .ok (.d (.bl b)) S':=by
 obtain⟨v,S1,h1,h2⟩:=R3.aq h
 split at h2
 ·cases h2;exact h1
 ·cases h2
noncomputable def Gk(f g:FX):FX:=fun δ S=>(JV f δ S).bind fun b S=>if b then g δ S else .ok (.d (.bl false)) S
noncomputable def LX(f g:FX):FX:=fun δ S=>(JV f δ S).bind fun b S=>if b then .ok (.d (.bl true)) S else g δ S
theorem EB{a:Expr}{op}{f:FX}{pos:Pos}(h:PX X cl a f):PX X cl (.BoolOp op [a] pos) f:=⟨EI h.1⟩
theorem FW{a b:Expr}{rest:List Expr}{f g:FX}{pos:Pos}(ha:PX X cl a f)(hb:PX X cl (.BoolOp .And (b ::rest) pos) g):PX X cl (.BoolOp .And (a ::b ::rest) pos) (Gk f g):=⟨(F7 ha.1 hb.1).imp fun σ H Q ⟨ρ,S,δ,k,S',E,hf,q⟩=>by
 obtain⟨c,S1,h1,h2⟩:=R3.aq hf
 refine⟨ρ,S,δ, .d (.bl c),S1,E,Ft h1,fun v ρ1 H1 p1 w1 r1=>⟨c,by unfold bh Rep at r1;exact r1,?_⟩⟩
 cases c with
 | true=>rw [if_pos rfl] at h2 ⊢;exact⟨ρ1,S1,δ,k,S',E.to p1 w1,h2,fun v ρ2 H' p2 w2 r2=>q v ρ2 H' (p1.trans p2) w2 r2⟩
 | false=>rw [if_neg (by decide)] at h2 ⊢;cases h2;exact q _ ρ1 H1 p1 w1 (by unfold bh Rep;rfl)⟩
theorem w_and{f g:FX}{δ:DE}{S:aN}{Q:V3→aN→Prop}(h:W3 (f δ S) fun v S1=>v= .d (.bl true)∧W3 (g δ S1) Q):W3 (Gk f g δ S) Q:=W3.bind (W3.bind (h.mono fun v S1 ⟨e,h2⟩=>by subst e;exact W3.ok (by rw[if_pos rfl];exact h2)))
noncomputable def Bg(i:Nat)(F:FZ):FZ:=fun δ S=>match gz δ i with
 | some k=>(match c_ S k with | some ds=>F (δ.set i (some (.d (.lst ds)))) (S.set k .iS) | none=> .no)
 | none=> .no
theorem DV(i:Nat){sts:List Stmt}{F:FZ}(h:zY X cl sts F):zY X cl sts (Bg i F):=⟨h.1.imp fun D σ H ⟨ρ,S,δ,o,S',E,hf,q⟩=>by
 unfold Bg at hf
 split at hf
 ·rename_i k hk
  split at hf
  ·rename_i ds hds
   obtain⟨v,v1,v2⟩:=E.val i _ (mL hk)
   unfold bh at v2
   obtain⟨a,a1,rfl⟩:=v2
   obtain⟨w,p,r⟩:=E.sw.iS a1 (fJ hds)
   have E1:fg X.K cl ⟨ρ.r,ρ.z,a ::ρ.f⟩ H (S.set k .iS) σ (δ.set i (some (.d (.lst ds)))):=⟨by rw[List.length_set];exact E.len,w,fun j d e=>by
    by_cases h:i=j
    ·subst h
     rw[List.getElem?_set_self (by obtain⟨h1,_⟩:=List.getElem?_eq_some_iff.mp (mL hk);exact h1)] at e
     cases e
     exact⟨_,v1,by unfold bh;exact r⟩
    ·rw[List.getElem?_set_ne h] at e
     obtain⟨u,u1,u2⟩:=E.val j d e
     exact⟨u,u1,u2.pre p⟩⟩
   exact⟨_,_,_,o,S',E1,hf,q.pre p⟩
  ·cases hf
 ·cases hf⟩
theorem G7{i k:Nat}{ds:List D}{F:FZ}{δ:DE}{S:aN}{QO:Ou→aN→Prop}(hk:δ[i]? =some (some (.loc k)))(hS:S[k]? =some (.lst ds))(h:W3 (F (δ.set i (some (.d (.lst ds)))) (S.set k .iS)) QO):W3 (Bg i F δ S) QO:=by
 unfold Bg
 have e1:gz δ i=some k:=by unfold gz;rw [hk]
 have e2:c_ S k=some ds:=by unfold c_;simp only[hS]
 simp only[e1,e2]
 exact h
end
noncomputable def Flat(S:aN):Prop:=∀o∈S,∀n,lN n o=true
theorem Flat.all{S:aN}(h:Flat S)(n:Nat):(S.take n).all (lN n)=true:=List.all_eq_true.mpr fun o ho=>h o (List.mem_of_mem_take ho) n
theorem Flat.set{S:aN}(h:Flat S)(k:Nat){x:SO}(hx:∀n,lN n x=true):Flat (S.set k x):=fun o ho=>by
 rcases List.mem_or_eq_of_mem_set ho with z | z
 ·exact h o z
 ·rw[z];exact hx
theorem Flat.push{S:aN}(h:Flat S){x:SO}(hx:∀n,lN n x=true):Flat (S++[x]):=fun o ho=>by
 rcases List.mem_append.mp ho with z | z
 ·exact h o z
 ·rw[List.mem_singleton.mp z];exact hx
theorem Flat.take{S:aN}(h:Flat S)(n:Nat):Flat (S.take n):=fun o ho=>h o (List.mem_of_mem_take ho)
theorem Flat.nil:Flat []:=fun o ho=>by cases ho
theorem qg{N:List Str}{F:FZ}{vs:List V3}{S:aN}{QV:V3→aN→Prop}(h:W3 (kJ N F vs S) fun v S1=>Flat S1∧d9 S.length v=true∧∃d,res S1 v=some d∧QV (.d d) (S1.take S.length)):W3 (lU N F vs S) QV:=
 W3.bind (h.mono fun v S1 ⟨hl,hg,d,e,q⟩=>by
  rw[e]
  exact W3.wh (by rw[hl.all,hg];rfl) (W3.ok q))
end L3
end
section
set_option maxRecDepth 100000
set_option maxHeartbeats 4000000
namespace PySem
open Sem (wp)
open AutoSeq1 (wpAny_loadPart')
section
variable {prog:Program} {w:World} {A:Around} {E:Value→Shared→Prop} {s:Shared}
end
end PySem
namespace L2
open PySem PySem.Spec PyProof.Rows
section
variable {X:Cx}
noncomputable def IV(f:FD):FD:=fun δ=>(f δ).bind fun d=>match d with
 | .int j=>R.cc (decide (-(2 ^ 62)≤j∧j < 16777216)) (.ok (.tup (cH 0 j.toNat)))
 | _=> .no
end
end L2
end
section
set_option maxRecDepth 100000
set_option maxHeartbeats 4000000
namespace PySem
open Sem (wp)
open AutoSeq1 (wpAny_loadPart')
section
variable {prog:Program} {w:World} {A:Around} {E:Value→Shared→Prop} {s:Shared}
theorem kC{it l:Addr}{i:Nat}{items:Array Value}{x:Value}{Q:Value→Shared→Prop}(hit:s.heap.IsTupleIter it l i)(hl:s.heap.IsTuple l items)(hx:items[i]? =some x)
 (hQ:∀h',h'.IsTupleIter it l (i+1)→Heap.SameBut it s.heap h'→Q x {s with heap:=h'}):wpAny (model prog w) A (Builtin.SmallTypes.nextOf (.ref it)) Q E s:=by
 obtain⟨o,ho,hc,hd⟩:=id hit;obtain⟨ol,hol,_,nl,hdl⟩:=hl
 unfold Builtin.SmallTypes.nextOf
 refine wpAny_bind (wpAny_callSpecial?_slot (name:=Str.ofString "__next__") hit.typeIs F.slot_tuple_iterator_next (wpAny_call_entry F.slot_tuple_iterator_next hit.typeIs F.entry_tuple_iterator_next ?_ (F.args_tuple_iterator_next_1 _)))
 show wpAny _ _ (field (.ref it) 0 >>=_) _ _ s;refine wpAny_bind (wpAny_field ho hd (x:= .ref l) rfl ?_)
 show wpAny _ _ (if(Value.ref l==Value.none)=true then _ else _) _ _ s;rw [if_neg (show ¬((Value.ref l==Value.none)=true) from Bool.false_ne_true)]
 show wpAny _ _ (field (.ref it) 1 >>=_) _ _ s;refine wpAny_bind (wpAny_field ho hd (x:= .int i 0) rfl ?_)
 show wpAny _ _ (seqItems? (.ref l) >>=_) _ _ s;refine wpAny_bind (wpAny_seqItems hol hdl ?_)
 simp only[Int.toNat_natCast,hx]
 refine wpAny_bind (wpAny_setField ho hd (by simp) (wpAny_pure ⟨x,rfl,wpAny_pure (hQ _ ⟨_,Heap.get?_update_self _ ho (Obj.isFreed_of_fields (Obj.data_mapFields hd _)),(Obj.cls_mapFields ..).trans hc,by rw[Obj.data_mapFields hd];simp [rawInt]⟩ (Heap.SameBut.update ..))⟩))
theorem iU{it l:Addr}{i:Nat}{items:Array Value}{Q:Value→Shared→Prop}(hh:A.handled=none)(hit:s.heap.IsTupleIter it l i)(hl:s.heap.IsTuple l items)(hx:items[i]? =none)
 (hE:∀h' e,Heap.ExtBut it s.heap h'→(∃o,h'.get? e=some o∧o.cls= .type "StopIteration")→E (.ref e) {s with heap:=h'}):wpAny (model prog w) A (Builtin.SmallTypes.nextOf (.ref it)) Q E s:=by
 obtain⟨o,ho,hc,hd⟩:=id hit;obtain⟨ol,hol,_,nl,hdl⟩:=hl
 unfold Builtin.SmallTypes.nextOf
 refine wpAny_bind (wpAny_callSpecial?_slot (name:=Str.ofString "__next__") hit.typeIs F.slot_tuple_iterator_next (wpAny_call_entry F.slot_tuple_iterator_next hit.typeIs F.entry_tuple_iterator_next ?_ (F.args_tuple_iterator_next_1 _)))
 show wpAny _ _ (field (.ref it) 0 >>=_) _ _ s;refine wpAny_bind (wpAny_field ho hd (x:= .ref l) rfl ?_)
 show wpAny _ _ (if(Value.ref l==Value.none)=true then _ else _) _ _ s;rw [if_neg (show ¬((Value.ref l==Value.none)=true) from Bool.false_ne_true)]
 show wpAny _ _ (field (.ref it) 1 >>=_) _ _ s;refine wpAny_bind (wpAny_field ho hd (x:= .int i 0) rfl ?_)
 show wpAny _ _ (seqItems? (.ref l) >>=_) _ _ s;refine wpAny_bind (wpAny_seqItems hol hdl ?_)
 simp only[Int.toNat_natCast,hx]
 refine wpAny_bind (wpAny_rule (wpAny_bind (wpAny_setField ho hd (by simp) ?_)))
 show wpAny _ _ (newExc (.type "StopIteration") [] >>=_) _ _ _;refine wpAny_bind ?_;simp only[newExc,newTuple]
 refine wpAny_bind (wpAny_newObj_type ?_ (by size_fits))
 refine wpAny_bind (m:=firstArgMember _ _) (wpAny_of_eq (a:=Value.none) (by first | rfl | (simp only[firstArgMember];rfl)) ?_);refine wpAny_newObj_type ?_ (by size_fits)
 simp only[raiseNew];refine wpAny_bind (wpAny_handled ?_)
 first | rw[show A.in1.handled=none from hh] | rw[hh]
 exact wpAny_bind (wpAny_pure (wpAny_throw (hE _ _ (((Heap.SameBut.update ..).extBut.push _).push _) ⟨_,Heap.get?_push_size _ rfl,rfl⟩)))
end
theorem zk{prog:Program}{w:World}{A:Around}(hh:A.handled=none)(it l:Addr)(hne:l≠it)(items:Array Value) :
 Draws prog w A it [it,l] items.size (fun i v=>items[i]? =some v) (fun i h=>h.IsTupleIter it l i∧h.IsTuple l items) where
 live:=fun _ _ st=>let⟨o,ho,_⟩:=st.1;⟨o,ho⟩
 frame:=fun _ _ _ st hk=>⟨st.1.at fun o e=>hk it (by simp) o e,Heap.IsTuple.at st.2 fun o e=>hk l (by simp) o e⟩
 item:=fun i s Q E hi st hQ=>kC st.1 st.2 (x:=items[i]) (by simp [hi]) fun h' hit' hs'=>hQ _ h' s.toks (by simp [hi]) ⟨hit',st.2.extBut hs'.extBut hne⟩ hs'
 done:=fun s Q E st hE=>iU hh st.1 st.2 (by simp) hE
theorem pq(l:Addr)(items:Array Value)(o:Obj)(n:Nat)(hc:o.cls= .type "tuple")(hd:o.data= .seq items n) :
 Meets (Builtin.«enumerate.__new__» ⟨[.type "enumerate", .ref l],[]⟩) (fun _ R s=>s.heap.get? l=some o∧
  R (.ok (.ret (.ref (s.heap.push {cls:= .type "tuple_iterator",data:= .fields #[.ref l, .int 0 0]}).objs.size)))
   {s with heap:=(s.heap.push {cls:= .type "tuple_iterator",data:= .fields #[.ref l, .int 0 0]}).push {cls:= .type "enumerate",data:= .fields #[.none, .bool false, .ref s.heap.objs.size,rawInt 0, .none, .none]}}):=
 .of_wp fun prog w A R s h=>by
  obtain⟨hp,g,d,tk,os⟩:=s;obtain⟨hl,h⟩:=h
  have hsub:=sub_enumerate
  have hL:Heap.IsTuple (Shared.heap ⟨hp,g,d,tk,os⟩) l items:=⟨_,hl,hc,n,hd⟩
  wp_walk using wpAny_loadPart' hl
  refine wpAny_stack_any fun st=>wpAny_pure ?_
  split
  ·rename_i c _ _ _ _ _
   cases(c==Value.type "enumerate") <;> (wp_walk using wpAny_loadPart' hl,wpAny_pyIter_tuple hL;exact⟨_,rfl,h⟩)
  ·wp_walk using wpAny_loadPart' hl,wpAny_pyIter_tuple hL
   exact⟨_,rfl,h⟩
theorem wI{prog:Program}{w:World}{A:Around}{E:Value→Shared→Prop}{s:Shared}{l:Addr}{items:Array Value}{Q:Value→Shared→Prop}(hL:s.heap.IsTuple l items)
 (h:∀h':Heap,IsEnum h' (s.heap.objs.size+1) s.heap.objs.size 0 .none→h'.IsTupleIter s.heap.objs.size l 0→(∀b o,s.heap.get? b=some o→h'.get? b=some o)→Q (.ref (s.heap.objs.size+1)) {s with heap:=h'}) :
 wpAny (model prog w) A (call (.type "enumerate") [.ref l]) Q E s:=by
 obtain⟨o,hl,hc,n,hd⟩:=hL
 refine callType_new F.called_enumerate (by decide) (F.typeCall_enumerate_1 _) (F.newCall_enumerate_1 _) (fun obj=>F.args_object_init_2 obj _) F.entry_enumerate_new (pq l items o n hc hd) ⟨hl,?_⟩
 have hz:(s.heap.push {cls:= .type "tuple_iterator",data:= .fields #[.ref l, .int 0 0]}).objs.size=s.heap.objs.size+1:=Heap.size_push ..
 show _∧_;rw [hz]
 have he:IsEnum ((s.heap.push {cls:= .type "tuple_iterator",data:= .fields #[.ref l, .int 0 0]}).push {cls:= .type "enumerate",data:= .fields #[.none, .bool false, .ref s.heap.objs.size,rawInt 0, .none, .none]}) (s.heap.objs.size+1) s.heap.objs.size 0 .none:=by
  have:=Heap.get?_push_size (s.heap.push {cls:= .type "tuple_iterator",data:= .fields #[.ref l, .int 0 0]}) (o:={cls:= .type "enumerate",data:= .fields #[.none, .bool false, .ref s.heap.objs.size,rawInt 0, .none, .none]}) rfl
  rw[hz] at this;exact this
 exact⟨⟨_,he,rfl⟩,h _ he ⟨_,Heap.get?_push_of_some _ (Heap.get?_push_size _ rfl),rfl,rfl⟩ fun b o x=>Heap.get?_push_of_some _ (Heap.get?_push_of_some _ x)⟩
end PySem
namespace L2
open PySem PySem.Spec PyProof.Rows
noncomputable def J0(K:PySem.W.Frag)(a:Addr):It:=
 ⟨fun i H=>∃xs x,pC K H a xs∧xs[i]? =some x,fun i H v H'=>∃p x,H p=none∧v= .ref p∧(∀xs,pC K H a xs→xs[i]? =some x)∧H'=upd H p (.tup [.int i,x]),fun i H=>∃xs,pC K H a xs∧xs.length≤i⟩
theorem wc{P:Program}{w:World}{K:PySem.W.Frag}{elts:List Expr}{k:Nat}{pos:Pos}(a e it:Addr)(hei:e≠it):Turn P w K (.Tuple elts k pos) (J0 K a) [e,it] e (fun i h=>(∃old,IsEnum h e it ((i:Nat):Int) old)∧h.IsTupleIter it a i) where
 mem:=by simp
 obj:=fun i h st b hb=>by
  obtain⟨⟨old,he⟩,o,ho,c,d⟩:=st
  rcases List.mem_cons.mp hb with rfl | hb
  ·exact⟨_,he,fun v z=>by cases z⟩
  ·have e:b=it:=by simpa using hb
   subst e
   exact⟨o,ho,fun v z=>by rw[d] at z;cases z⟩
 keep:=fun i h h' st k=>by
  obtain⟨⟨old,he⟩,hi⟩:=st
  exact⟨⟨old,k e (by simp) _ he⟩,hi.at fun o x=>k it (by simp) o x⟩
 item:=by
  intro X hP hw hK hc i pins s σ H E I hf st hg
  subst hP hw hK
  obtain⟨xs,x,hq,hx⟩:=hg
  obtain⟨its,rv,p,hz⟩:=I.tuple hq
  have p':s.heap.IsTuple a its.toArray:=p
  obtain⟨u,hu,ru⟩:=rv.get hx
  obtain⟨⟨old,he⟩,hit⟩:=st
  obtain⟨f0,f1,f2,f3,f4,f5⟩:=hf e (by simp)
  obtain⟨g0,g1,g2,g3,g4,g5⟩:=hf it (by simp)
  have ha_it:a≠it:=fun z=>by
   obtain⟨o1,h1,c1,_⟩:=p'
   obtain⟨o2,h2,c2,_⟩:=hit
   rw[z,h2] at h1;cases h1
   rw[c2] at c1;exact absurd c1 (by decide)
  have ha_e:e ∉ [it,a]:=fun z=>by
   rcases List.mem_cons.mp z with q | q
   ·exact hei q
   ·have q:e=a:=by simpa using q
    obtain⟨o1,h1,c1,_⟩:=p'
    rw[←q,he] at h1;cases h1
    exact absurd (show Value.type "enumerate"=Value.type "tuple" from c1) (by decide)
  refine wpAny_pyNext_enum_itemD (zk (A:=X.A.in1) (I.ok.hd hc) it a ha_it its.toArray) he ⟨hit,p'⟩ (by have:=(List.getElem?_eq_some_iff.mp hu).1;simpa using this) hei ha_e fun u2 h₁ tk hu2 heo st₁ ht₁ hz₁ hk₁=>⟨_,rfl,?_⟩
  obtain rfl:u2=u:=by
   have h1:its[i]? =some u2:=by simpa using hu2
   rw[hu] at h1;cases h1;rfl
  obtain⟨hit₁,_⟩:=st₁
  refine wpAny_letOwnedTupleGo_enum heo fun h₂ he₂ hs₂=>?_
  replace hs₂:Heap.SameBut e h₁ h₂:=hs₂
  have hel:e < s.heap.objs.size:=Heap.lt_size he
  have ht₂:h₂.get? s.heap.objs.size=some {cls:= .type "tuple",data:= .seq #[.int i tk,u2]}:=(hs₂.2 _ (Nat.ne_of_gt hel)).trans ht₁
  have kk:∀b o,b≠e→b≠it→s.heap.get? b=some o→h₂.get? b=some o:=fun b o h1 h2 q=>(hs₂.2 b h1).trans (hk₁ b o h1 h2 q)
  have hn:H s.heap.objs.size=none:=I.fresh
  have sm:aU H (upd H s.heap.objs.size (.tup [.int i,x])):=bb hn
  have nit:∀b o,H b=some o→b≠e∧b≠it:=fun b o q=>⟨fun z=>(by rw[z,f0] at q;cases q),fun z=>(by rw[z,g0] at q;cases q)⟩
  have hok:lX X.prog X.w (upd H s.heap.objs.size (.tup [.int i,x])) h₂:=fun b ob q=>by
   by_cases hb:b=s.heap.objs.size
   ·subst hb
    rw[bc] at q
    cases q
    exact⟨by show 2≤sizeLine;decide,[.int i tk,u2], .cons ⟨_,rfl⟩ (.cons ru .nil),⟨_,ht₂,rfl,_,rfl⟩⟩
   ·rw[bf hb] at q
    refine(I.hok b ob q).sZ (fun c v hc z=>?_) (fun c z=>sm c _ z) fun c ys z=>sm c _ z
    rcases hc with rfl | hc
    ·exact kk c v (nit c _ q).1 (nit c _ q).2 z
    ·exact kk c v (nit c _ hc).1 (nit c _ hc).2 z
  have nch:∀b,b ∉ [e,it]→b≠e∧b≠it:=fun b hb=>⟨fun z=>hb (by simp [z]),fun z=>hb (by simp [z])⟩
  have I2:Inv X pins σ (upd H s.heap.objs.size (.tup [.int i,x])) {s with heap:=h₂,toks:=tk+1}:=by
   refine I.step (g':=s.gens) (d':=s.drawn) (ch:=[e,it]) (fun b hb=>?_) (fun b o _ _ hb q _=>kk b o (nch b hb).1 (nch b hb).2 q) (fun b o _ _ hb q _=>⟨o.slots,kk b o (nch b hb).1 (nch b hb).2 q⟩)
    (fun b o hb q n=>by rw[bf (Nat.ne_of_lt (Heap.lt_size q))];exact n) (fun b o hb q=>⟨o,kk b o (nch b hb).1 (nch b hb).2 q⟩) (fun b ys z=>sm b _ z) (fun b o u z=>sm b _ z) (fun b ps z=>⟨#[],by rw[sm b _ z];simp⟩) (fun m hm=>?_) hok I.bare
   ·rcases List.mem_cons.mp hb with rfl | hb
    ·exact⟨f3,f1,f4,f5⟩
    ·have z:b=it:=by simpa using hb
     subst z
     exact⟨g3,g1,g4,g5⟩
   ·obtain⟨o,es,ep,ho,r⟩:=hm
    exact⟨o,es,ep,kk _ o (Ne.symm f1) (Ne.symm g1) ho,r⟩
  refine⟨.ref s.heap.objs.size,_,I2,rfl,⟨s.heap.objs.size,x,hn,rfl,fun ys hy=>(by rw[I.oA hy hq];exact hx),rfl⟩,⟨⟨_,by simpa using he₂⟩,hit₁.at fun o q=>(hs₂.2 it (Ne.symm hei)).trans q⟩,fun b hb=>?_⟩
  rcases List.mem_cons.mp hb with rfl | hb
  ·rw[bf (Nat.ne_of_lt hel)];exact f0
  ·have z:b=it:=by simpa using hb
   subst z
   obtain⟨o,ho,_⟩:=hit
   rw[bf (Nat.ne_of_lt (Heap.lt_size ho))];exact g0
 done:=by
  intro X hP hw hK hc i pins s σ H E I hf st hg
  subst hP hw hK
  obtain⟨xs,hq,hx⟩:=hg
  obtain⟨its,rv,p,hz⟩:=I.tuple hq
  have p':s.heap.IsTuple a its.toArray:=p
  obtain⟨⟨old,he⟩,hit⟩:=st
  obtain⟨g0,g1,g2,g3,g4,g5⟩:=hf it (by simp)
  have hl:=rv.length
  have hT:s.TypeIs (.ref e) "enumerate":=⟨_,he,rfl⟩
  unfold pyNext
  refine wpAny_bind (wpAny_attempt (wpAny_callSpecial?_slot (name:=Str.ofString "__next__") hT F.slot_enumerate_next (wpAny_call_entry F.slot_enumerate_next hT F.entry_enumerate_next ?_ (F.args_enumerate_next_1 _))))
  show wpAny _ _ (field (.ref e) 2 >>=_) _ _ _;refine wpAny_bind (wpAny_field he rfl (x:= .ref it) rfl ?_)
  refine wpAny_bind (iU (A:=X.A.in1) (I.ok.hd hc) hit p' (by simp;omega) fun h' x he' hx'=>?_)
  obtain⟨o,ho,hcl⟩:=hx'
  refine wpAny_bind (wpAny_isInstance (T:="StopIteration") (b:=true) ⟨o,ho,hcl⟩ isSubtype_stop ?_)
  exact wpAny_pure ⟨rfl,I.turned (t':=s.toks) (fun b o hb q=>he' b o hb q) g0 g1 g3 g4 g5⟩
 self:=fun A i s Q E st h=>let⟨⟨_,he⟩,_⟩:=st;wpAny_pyIter_enum he h
section
variable {X:Cx}
noncomputable def tm(f:FD):ax→R (List D):=fun δ=>(f δ).bind fun d=>match d with | .tup ds=> .ok (di ds) | _=> .no
theorem wo{elts:List Expr}{k:Nat}{tpos:Pos}{a:Expr}{f:FD}{p pos:Pos}(h:QD X a f)(hg:Gl X "enumerate")(hm:X.mg "enumerate"=none)(hs:starEach [a] X.env=[(false,eval a X.env)]:=by rfl):w_ X (.Tuple elts k tpos) (.Call (.Name "enumerate" p) [a] [] pos) (tm f):=by
 refine⟨?_⟩
 intro pins s σ H RR I ⟨Z,B,δ,ds,E,hf,q⟩
 obtain⟨d,h1,h2⟩:=R.aq hf
 have hA:=ic h.1 j2 hs pos pins s σ H (fun vs H1=>aU H H1∧∃v,vs=[v]∧Rep X.K B H1 d v) I ⟨Z,B,δ,d,E,h1,fun v H1 s1 r1=>⟨s1,v,rfl,r1⟩⟩
 refine Call_ (mF I hg hm boot_enumerate (PyProof.Rows.callWith_type1 (dN hA fun us s1 ⟨vs,H1,I1,r1,ss,v,ev,rr⟩=>?_) hs rfl))
 subst ev
 obtain⟨u,rfl,ru⟩:=vals1 r1
 cases d with
 | tup es=>
   cases h2
   obtain⟨b,xs,rfl,l,rs⟩:=Rep.tup.mp rr
   cases ru
   obtain⟨its,rv,pt,hz⟩:=I1.tuple l.sq
   refine wI (items:=its.toArray) pt fun h' he hit kk=>wpAny_pyIter_enum he ?_
   have I2:Inv X pins σ H1 {s1 with heap:=h'}:=I1.kept (t':=s1.toks) kk
   refine⟨s1.heap.objs.size+1,[s1.heap.objs.size+1,s1.heap.objs.size],_,_,H1,rfl,I2,wc b (s1.heap.objs.size+1) s1.heap.objs.size (Nat.succ_ne_self _),⟨⟨_,he⟩,hit⟩,fun c hc=>?_,q _ H1 ss fun B' H' pr=>?_⟩
   ·have hle:s1.heap.objs.size≤c:=by
     rcases List.mem_cons.mp hc with z | hc
     ·rw[z];exact Nat.le_succ _
     ·have z:c=s1.heap.objs.size:=by simpa using hc
      rw[z];exact Nat.le_refl _
    exact I1.rA hle (I1.hok.fresh hle)
   ·have l':sL X.K B' H' b xs:=l.elim (fun z=> .inl ⟨(pr.rd z.2 z.1).2,(pr.rd z.2 z.1).1⟩) .inr
    have rs':=rs.bq pr
    refine⟨fun i d hd=>?_,⟨xs,l'.sq,by rw[←rs.length];unfold di;simp⟩⟩
    unfold di at hd
    rw[List.getElem?_map,List.getElem?_zipIdx] at hd
    cases e:es[i]? with
    | none=>rw [e] at hd;cases hd
    | some d0=>
      rw[e] at hd
      have hd:D.tup [.int ((0+i:Nat):Int),d0]=d:=Option.some.inj hd
      rw[Nat.zero_add] at hd
      obtain⟨x,hx,rx⟩:=rs'.get e
      refine⟨⟨xs,x,l'.sq,hx⟩,fun v H'' y hB'=>?_⟩
      obtain⟨p,y,hp,rfl,hy,rfl⟩:=y
      refine⟨bb hp,?_⟩
      subst hd
      have hy2:=hy xs l'.sq
      rw[hx] at hy2
      cases hy2
      refine Rep.tup.mpr ⟨p,_,rfl, .inl ⟨fun ha=>?_, .inl bc⟩,aH.cons (Rep.int.mpr rfl) (aH.cons (rx.same (bb hp)) aH.nil)⟩
      obtain⟨o,ho⟩:=hB' p ha
      rw[hp] at ho;cases ho
 | _=>cases h2
end
end L2
end
section
set_option maxRecDepth 100000
set_option maxHeartbeats 4000000
namespace L2
open PySem PySem.Spec PyProof.Rows
section
variable {X:Cx}
theorem AQ:k_ X (binaryOp .FloorDiv) (rI (fun _ j=>0 < j∧j.natAbs.log2 < 9000) fun i j=> .int (i / j)):=IA fun i j _ _ _ _ _ hc q=>by
 have h1:(0:Int) < j:=hc.1
 exact floordiv_int (by omega) (by rw[Int.fdiv_eq_ediv_of_nonneg i (by omega)];exact q) (.inl (PyProof.noPylong_of_log2 hc.2))
noncomputable abbrev sH:D→D→R D:=vM (fun _ j=>decide (0 < j∧j.natAbs.log2 < 9000)) fun i j=>i / j
theorem wH:kI X (binaryOp .FloorDiv) sH:=yB AQ fun i j h=>(of_decide_eq_true h:0 < j∧j.natAbs.log2 < 9000)
theorem vn{K:PySem.W.Frag}{B:List Addr}{H:Hp}{ds:List D}{xs:List V}(r:aH K B H ds xs):∀n:Nat,aH K B H (List.replicate n ds).flatten (List.replicate n xs).flatten
 | 0=>aH.nil
 | n+1=>by rw[List.replicate_succ,List.replicate_succ,List.flatten_cons,List.flatten_cons];exact r.append (vn r n)
noncomputable def CL(f:ax→R (List D))(g:FD):ax→R (List D):=fun δ=>(f δ).bind fun ds=>(g δ).bind fun d=>match d with
 | .int k=>R.cc (decide (0≤k∧k < 1000000∧ds.length*k.toNat≤sizeLine)) (.ok (List.replicate k.toNat ds).flatten)
 | _=> .no
theorem Dp{a b:Expr}{f:ax→R (List D)}{g:FD}{pos:Pos}(ha:QN X a f)(hb:QD X b g):QN X (.BinOp a .Mult b pos) (CL f g):=by
 refine⟨(xG EM ha.1 hb.1).imp fun σ H Q ⟨Z,B,δ,es,E,hf,q⟩=>?_⟩
 obtain⟨ds,h1,h2⟩:=R.aq hf
 obtain⟨d,h3,h4⟩:=R.aq h2
 split at h4
 ·rename_i k
  obtain⟨h5,h6⟩:=R.br h4
  cases h6
  obtain⟨k0,k1,k2⟩:=of_decide_eq_true h5
  refine⟨Z,B,δ,ds,E,h1,fun a xs H1 s1 n1 e1 r1=>⟨Z,B,δ, .int k,E.same s1,h3,fun v H2 s2 r2=>⟨a,k,xs,rfl,Rep.int.mp r2,s2 a _ e1,by omega,by omega,by rw[←r1.length];exact k2,fun p hp=>?_⟩⟩⟩
  refine q p _ _ (s1.trans (s2.trans (bb hp))) ((s1.trans s2).free hp) bc ?_
  refine(vn r1 k.toNat).bq fun b o e nb=>⟨(s2.trans (bb hp)) b o e,fun hm=>?_⟩
  rcases List.mem_cons.mp hm with z | z
  ·rw[z] at e;rw [s2 p _ e] at hp;cases hp
  ·exact nb (List.mem_cons_of_mem _ z)
 ·cases h4
noncomputable def HU(ns:List Int):List Int:=ns.mergeSort fun a b=>decide (a≤b)
noncomputable def II:List D→R D
 | [.lst ds]=>(match ints? ds with | some ns=>R.cc (decide (ns.length < 64)) (.ok (.lst ((HU ns).map .int))) | none=> .no)
 | _=> .no
theorem getD_in{l:List Int}{i:Nat}(h:i < l.length):l.getD i 0∈l:=by
 have e:l.getD i 0=l[i]:=by simp [h]
 rw[e];exact List.getElem_mem h
theorem fold_min:∀(ns:List Int) (n:Int),ns.foldl min n∈n ::ns∧∀a∈n ::ns,ns.foldl min n≤a
 | [],n=>⟨by simp,fun a ha=>by simp at ha;subst ha;exact Int.le_refl _⟩
 | x ::ns,n=>by
   obtain⟨h1,h2⟩:=fold_min ns (min n x)
   rw[List.foldl_cons]
   refine⟨?_,fun a ha=>?_⟩
   ·rcases List.mem_cons.mp h1 with z | z
    ·rw[z];by_cases hc:n≤x
     ·rw[Int.min_eq_left hc];simp
     ·rw[Int.min_eq_right (by omega)];simp
    ·exact List.mem_cons_of_mem _ (List.mem_cons_of_mem _ z)
   ·have hm:=h2 _ List.mem_cons_self
    rcases List.mem_cons.mp ha with z | z
    ·subst z;omega
    ·rcases List.mem_cons.mp z with z | z
     ·subst z;omega
     ·exact h2 a (List.mem_cons_of_mem _ z)
theorem fold_max:∀(ns:List Int) (n:Int),ns.foldl max n∈n ::ns∧∀a∈n ::ns,a≤ns.foldl max n
 | [],n=>⟨by simp,fun a ha=>by simp at ha;subst ha;exact Int.le_refl _⟩
 | x ::ns,n=>by
   obtain⟨h1,h2⟩:=fold_max ns (max n x)
   rw[List.foldl_cons]
   refine⟨?_,fun a ha=>?_⟩
   ·rcases List.mem_cons.mp h1 with z | z
    ·rw[z];by_cases hc:n≤x
     ·rw[Int.max_eq_right hc];simp
     ·rw[Int.max_eq_left (by omega)];simp
    ·exact List.mem_cons_of_mem _ (List.mem_cons_of_mem _ z)
   ·have hm:=h2 _ List.mem_cons_self
    rcases List.mem_cons.mp ha with z | z
    ·subst z;omega
    ·rcases List.mem_cons.mp z with z | z
     ·subst z;omega
     ·exact h2 a (List.mem_cons_of_mem _ z)
noncomputable def vf:List D→R D
 | [.lst ds]=>(match ints? ds with | some (n ::ns)=> .ok (.int (ns.foldl min n)) | _=> .no)
 | ds=>qS ds
noncomputable def yC:List D→R D
 | [.lst ds]=>(match ints? ds with | some (n ::ns)=> .ok (.int (ns.foldl max n)) | _=> .no)
 | ds=>Fe ds
theorem Fz(hc:X.calm=true):fq X (.builtin "min") vf:=by
 intro pins s σ H B ds d xs us I hb rx rs hg
 unfold vf at hg
 split at hg
 ·split at hg
  ·rename_i es n ns e
   cases hg
   obtain⟨x,rfl,r⟩:=rs.one
   obtain⟨a,ys,rfl,l,r⟩:=Rep.lst.mp r
   obtain⟨u,rfl,ru⟩:=vals1 rx
   cases ru
   obtain⟨its,k,rv,e1,hz⟩:=I.Hg l
   rw[fN r e] at rv
   obtain⟨ps,rfl,hps⟩:=jw rv
   have hl:s.heap.IsList a (intItems ps.toArray):=⟨_,e1,rfl,k,by simp [intItems]⟩
   have hlp:ps.length=ns.length+1:=by have:=congrArg List.length hps;simpa using this
   refine min_intList (I.ok.hd hc) hl (by simp;omega) fun v h' tk hv hk=>?_
   obtain⟨t,rfl⟩:=intItems_at hv
   obtain⟨b1,b2⟩:=argBest_lt (numAt ps.toArray) (ps.toArray.size - 1)
   refine⟨.int _,H,I.kept hk,⟨t,rfl⟩,aU.refl H,Rep.int.mpr ?_⟩
   obtain⟨m1,m2⟩:=fold_min ns n
   have hge:∀j,j < ps.length→numAt ps.toArray j=(n ::ns).getD j 0:=fun j hj=>by rw[numAt_eq,←hps]
   have hin:numAt ps.toArray (argBest (fun i j=>decide (numAt ps.toArray i < numAt ps.toArray j)) (ps.toArray.size - 1))∈n ::ns:=by
    rw[hge _ (by simp at b1 ⊢;omega)];exact getD_in (by simp at b1 ⊢;omega)
   have hle:=m2 _ hin
   obtain⟨j,hj,ej⟩:=List.getElem_of_mem m1
   have hj':j < ns.length+1:=by simpa using hj
   have h3:=b2 j (by simp;omega)
   rw[hge j (by omega)] at h3
   have h4:(n ::ns).getD j 0=ns.foldl min n:=by rw[←ej,List.getD_eq_getElem?_getD,List.getElem?_eq_getElem hj];rfl
   rw[h4] at h3
   congr 1
   omega
  ·cases hg
 ·exact Hs hc pins s σ H B _ d xs us I hb rx rs hg
theorem GK(hc:X.calm=true):fq X (.builtin "max") yC:=by
 intro pins s σ H B ds d xs us I hb rx rs hg
 unfold yC at hg
 split at hg
 ·split at hg
  ·rename_i es n ns e
   cases hg
   obtain⟨x,rfl,r⟩:=rs.one
   obtain⟨a,ys,rfl,l,r⟩:=Rep.lst.mp r
   obtain⟨u,rfl,ru⟩:=vals1 rx
   cases ru
   obtain⟨its,k,rv,e1,hz⟩:=I.Hg l
   rw[fN r e] at rv
   obtain⟨ps,rfl,hps⟩:=jw rv
   have hl:s.heap.IsList a (intItems ps.toArray):=⟨_,e1,rfl,k,by simp [intItems]⟩
   have hlp:ps.length=ns.length+1:=by have:=congrArg List.length hps;simpa using this
   refine max_intList (I.ok.hd hc) hl (by simp;omega) fun v h' tk hv hk=>?_
   obtain⟨t,rfl⟩:=intItems_at hv
   obtain⟨b1,b2⟩:=argBest_gt (numAt ps.toArray) (ps.toArray.size - 1)
   refine⟨.int _,H,I.kept hk,⟨t,rfl⟩,aU.refl H,Rep.int.mpr ?_⟩
   obtain⟨m1,m2⟩:=fold_max ns n
   have hge:∀j,j < ps.length→numAt ps.toArray j=(n ::ns).getD j 0:=fun j hj=>by rw[numAt_eq,←hps]
   have hin:numAt ps.toArray (argBest (fun i j=>decide (numAt ps.toArray i > numAt ps.toArray j)) (ps.toArray.size - 1))∈n ::ns:=by
    rw[hge _ (by simp at b1 ⊢;omega)];exact getD_in (by simp at b1 ⊢;omega)
   have hle:=m2 _ hin
   obtain⟨j,hj,ej⟩:=List.getElem_of_mem m1
   have hj':j < ns.length+1:=by simpa using hj
   have h3:=b2 j (by simp;omega)
   rw[hge j (by omega)] at h3
   have h4:(n ::ns).getD j 0=ns.foldl max n:=by rw[←ej,List.getD_eq_getElem?_getD,List.getElem?_eq_getElem hj];rfl
   rw[h4] at h3
   congr 1
   omega
  ·cases hg
 ·exact Ig hc pins s σ H B _ d xs us I hb rx rs hg
end
end L2
namespace L3
open PySem PySem.Spec PyProof.Rows L2
noncomputable def wq(S:aN):V3→Option (List D)
 | .d (.lst ds)=>some ds
 | .loc k=>c_ S k
 | _=>none
theorem Cb{K:PySem.W.Frag}{cl:Nat→Addr}{ρ:P3}{H:Hp}{S:aN}{v:V3}{x:V}{ds:List D}(w:SW K cl ρ H S)(h:wq S v=some ds)(r:bh K ρ H v x):∃a xs,x= .ref a∧qW K [] H a xs∧aH K ρ.b H ds xs:=by
 unfold wq at h
 split at h
 ·cases h
  unfold bh Rep at r
  obtain⟨a,xs,e,l,rs⟩:=r
  exact⟨a,xs,e,l.bq (fun b o e _=>⟨e,by simp⟩),rs⟩
 ·unfold bh at r
  obtain⟨a,a1,rfl⟩:=r
  obtain⟨xs,e,rs⟩:=w.ob _ a _ a1 (fJ h)
  exact⟨a,xs,rfl, .inl ⟨by simp, .inl e⟩,rs⟩
 ·cases h
section
variable {X:Cx} {cl:Nat→Addr}
noncomputable def D7(fa fb:FX):FX:=fun δ S=>(fa δ S).bind fun a S1=>(fb δ S1).bind fun b S2=>match wq S2 a,wq S2 b with
 | some ds,some es=>R3.cc (decide (ds.length+es.length≤sizeLine)) (.ok (.loc S2.length) (S2++[.lst (ds++es)]))
 | _,_=> .no
theorem A8{a b:Expr}{fa fb:FX}{pos:Pos}(ha:PX X cl a fa)(hb:PX X cl b fb):PX X cl (.BinOp a .Add b pos) (D7 fa fb):=⟨(xG yj ha.1 hb.1).imp fun σ H Q ⟨ρ,S,δ,v,S',E,hf,q⟩=>by
 obtain⟨a,S1,h1,h2⟩:=R3.aq hf
 obtain⟨b,S2,h3,h4⟩:=R3.aq h2
 split at h4
 ·rename_i ds es e1 e2'
  obtain⟨hl,h5⟩:=R3.br h4
  cases h5
  refine⟨ρ,S,δ,a,S1,E,h1,fun u1 ρ1 H1 p1 w1 r1=>⟨ρ1,S1,δ,b,S2,E.to p1 w1,h3,fun u2 ρ2 H2 p2 w2 r2=>?_⟩⟩
  obtain⟨la,xs,rfl,l1,rs1⟩:=Cb w2 e1 (r1.pre p2)
  obtain⟨lb,ys,rfl,l2,rs2⟩:=Cb w2 e2' r2
  refine⟨[],la,lb,xs,ys,rfl,rfl,l1,l2,by rw[←rs1.length,←rs2.length];exact of_decide_eq_true hl,fun p hp=>?_⟩
  obtain⟨w3,p3⟩:=w2.new (a:=p) (o:= .lst (ds++es)) (bb (o:= .lst (xs++ys)) hp) hp ⟨xs++ys,bc,(rs1.append rs2).bq (fun b o e nb=>⟨by rw[bf (cu e hp)];exact e,fun hb=>by
   rcases P3.mem_push hb with z | z
   ·exact nb z
   ·exact cu e hp z⟩)⟩
  exact q _ _ _ (p1.trans (p2.trans p3)) w3 (by unfold bh;exact⟨p,by show(ρ2.r++[p])[_]? =_;rw [←w2.len,List.getElem?_append_right (Nat.le_refl _),Nat.sub_self];rfl,rfl⟩)
 ·cases h4⟩
theorem Es{fa fb:FX}{δ:DE}{S:aN}{Q:V3→aN→Prop}(h:W3 (fa δ S) fun a S1=>W3 (fb δ S1) fun b S2=>∃ds es,wq S2 a=some ds∧wq S2 b=some es∧ds.length+es.length≤sizeLine∧Q (.loc S2.length) (S2++[.lst (ds++es)])):W3 (D7 fa fb δ S) Q:=
 W3.bind (h.mono fun _ _ h=>W3.bind (h.mono fun _ _ ⟨ds,es,e1,e2',hl,q⟩=>by
  simp only[e1,e2']
  exact W3.wh (decide_eq_true hl) (W3.ok q)))
noncomputable def KQ(i:Nat):FZ:=fun δ S=>match gz δ i with
 | none=> .no
 | some k=>(match c_ S k with | some _=> .ok (.nx δ) (S.set k (.lst [])) | none=> .no)
end
end L3
end
section
set_option maxRecDepth 100000
set_option maxHeartbeats 4000000
namespace L3
open PySem PySem.Spec PyProof.Rows L2
noncomputable def kR(S:aN)(c k:Nat):Option (List (Str × V3)):=match S[k]? with | some (.ins c' fs)=>(if c'=c then some fs else none) | _=>none
theorem j5{S:aN}{c k:Nat}{fs:List (Str × V3)}(h:kR S c k=some fs):S[k]? =some (.ins c fs):=by
 unfold kR at h
 split at h
 ·rename_i c' fs' e
  split at h
  ·rename_i hc;cases h;rw [e,hc]
  ·cases h
 ·cases h
theorem yt{K:PySem.W.Frag}{ρ:P3}{H:Hp}{f:Str}{v:V3}:∀{fs:List (Str × V3)} {ys:List (Str × V)},ys.map (·.1)=fs.map (·.1)→aG K ρ H (fs.map (·.2)) (ys.map (·.2))→fs.lookup f=some v→∃x,ys.lookup f=some x∧bh K ρ H v x
 | [],ys,_,_,h=>by simp at h
 | (g,w) ::fs,[],e,_,_=>by simp at e
 | (g,w) ::fs,(g',y) ::ys,e,r,h=>by
   obtain⟨e1,e2'⟩:=List.cons.inj e
   have e1:g'=g:=e1
   subst e1
   obtain⟨x,xs,ex,r1,r2⟩:=r.cC
   cases ex
   rw[List.lookup_cons] at h ⊢
   cases hq:f==g' with
   | true=>rw [hq] at h;cases h;exact⟨y,rfl,r1⟩
   | false=>rw [hq] at h;exact yt e2' r2 h
theorem uY{f:Str}:∀{fs:List (Str × V3)} {ys:List (Str × V)},ys.map (·.1)=fs.map (·.1)→fs.lookup f=none→ys.lookup f=none
 | [],[],_,_=>rfl
 | [],_ ::_,e,_=>by simp at e
 | _ ::_,[],e,_=>by simp at e
 | (g,w) ::fs,(g',y) ::ys,e,h=>by
   obtain⟨e1,e2'⟩:=List.cons.inj e
   have e1:g'=g:=e1
   subst e1
   rw[List.lookup_cons] at h ⊢
   cases hq:f==g' with
   | true=>rw [hq] at h;cases h
   | false=>rw [hq] at h;exact uY e2' h
noncomputable def uU(f:Str)(v:V3):List (Str × V3)→List (Str × V3)
 | []=>[(f,v)]
 | (g,x) ::r=>if g=f then(g,v) ::r else(g,x) ::uU f v r
theorem x3{K:PySem.W.Frag}{ρ:P3}{H:Hp}{f:Str}{v:V3}{u:V}(rv:bh K ρ H v u):∀{fs:List (Str × V3)} {ys:List (Str × V)},ys.map (·.1)=fs.map (·.1)→aG K ρ H (fs.map (·.2)) (ys.map (·.2))→
 (jy f u ys).map (·.1)=(uU f v fs).map (·.1)∧aG K ρ H ((uU f v fs).map (·.2)) ((jy f u ys).map (·.2))
 | [],[],_,_=>⟨rfl,aG.cons rv aG.nil⟩
 | [],_ ::_,e,_=>by simp at e
 | _ ::_,[],e,_=>by simp at e
 | (g,w) ::fs,(g',y) ::ys,e,r=>by
   obtain⟨e1,e2'⟩:=List.cons.inj e
   have e1:g'=g:=e1
   subst e1
   obtain⟨x,xs,ex,r1,r2⟩:=r.cC
   cases ex
   unfold uU jy
   by_cases hg:g'=f
   ·rw[if_pos hg,if_pos hg]
    exact⟨by rw[List.map_cons,List.map_cons,e2'],aG.cons rv r2⟩
   ·rw[if_neg hg,if_neg hg]
    obtain⟨h1,h2⟩:=x3 rv e2' r2
    exact⟨by rw[List.map_cons,List.map_cons,h1],aG.cons r1 h2⟩
section
variable {X:Cx} {cl:Nat→Addr}
noncomputable def lq(c:Nat)(f:Str)(g:FX):FX:=fun δ S=>(g δ S).bind fun v S1=>match v with
 | .loc k=>(match kR S1 c k with | some fs=>(match fs.lookup f with | some v=> .ok v S1 | none=> .no) | none=> .no)
 | _=> .no
theorem fG{c:Nat}{e:Expr}{f:Str}{g:FX}{pos:Pos}(hC:ud X.K (cl c))(hn:c6 X.K (cl c) f)(he:PX X cl e g)(hb:attributeBase e f X.env (eval e X.env)=eval e X.env:=by rfl):PX X cl (.Attribute e f pos) (lq c f g):=⟨(FP he.1 hb).imp fun σ H Q ⟨ρ,S,δ,v,S',E,hf,q⟩=>by
 obtain⟨o,S1,h1,h2⟩:=R3.aq hf
 split at h2
 ·rename_i k
  split at h2
  ·rename_i fs e1
   split at h2
   ·rename_i w e2'
    cases h2
    refine⟨ρ,S,δ, .loc k,_,E,h1,fun u ρ1 H1 p1 w1 r1=>?_⟩
    unfold bh at r1
    obtain⟨a,a1,rfl⟩:=r1
    obtain⟨dx,ys,ey,ek,rs⟩:=w1.ob k a _ a1 (j5 e1)
    obtain⟨x,hx,rx⟩:=yt ek rs e2'
    exact⟨a,cl c,dx,ys,x,rfl,ey,hC,hn,hx,q x ρ1 H1 p1 w1 rx⟩
   ·cases h2
  ·cases h2
 ·cases h2⟩
theorem w_fld{c k:Nat}{f:Str}{g:FX}{δ:DE}{S:aN}{Q:V3→aN→Prop}(h:W3 (g δ S) fun v S1=>∃fs w,v= .loc k∧S1[k]? =some (.ins c fs)∧fs.lookup f=some w∧Q w S1):W3 (lq c f g δ S) Q:=
 W3.bind (h.mono fun v S1 ⟨fs,w,e1,e2',e3,q⟩=>by
  subst e1
  have e4:kR S1 c k=some fs:=by unfold kR;simp only[e2',if_true]
  simp only[e4,e3]
  exact W3.ok q)
noncomputable def dD(P:Program)(w:World)(K:PySem.W.Frag)(mg:Str→Option Value)(base:Heap)(cl:Nat→Addr)(k c:Nat)(m:Str)(n:Nat)(g:List V3→aN→R3 V3):Prop:=
 ∃(f:Addr) (fd:FuncData) (ps:List Str),ud K (cl c)∧Meth K (cl c) m f∧ig P w K mg base rq k f fd ps (Au K cl (n+1) g)∧Binds K fd ps []
noncomputable def jN(c:Nat)(m:Str)(g:List V3→aN→R3 V3)(fo:FX)(fs:FA):FX:=fun δ S=>(fo δ S).bind fun o S1=>match o with
 | .loc k=>(match kR S1 c k with | some ys=>(match ys.lookup m with | none=>(fs δ S1).bind fun vs S2=>g (.loc k ::vs) S2 | some _=> .no) | none=> .no)
 | _=> .no
theorem gr{g:List V3→aN→R3 V3}{k j n c:Nat}{m:Str}{o e:Expr}{es:List Expr}{fo:FX}{fs:FA}{apos pos:Pos}{pl:Sem Bool}(M:dD X.prog X.w X.K X.mg X.base cl k c m n g)(hr:et j X.A)(hkj:k≤j)(ho:PX X cl o fo)(ha:Cm X cl (e ::es) fs)(hn:∀δ S ds S',fs δ S= .ok ds S'→ds.length=n)
 (hst:starEach (e ::es) X.env=(false,eval e X.env) ::starEach es X.env:=by rfl) (hpl:(backTo pos (starEach es X.env)).any (·.1)=false:=by rfl)
 (ht:eval (.Call (.Attribute o m apos) (e ::es) [] pos) X.env=(do
   let ov ←eval o X.env
   standAt apos.atName
   let(f,first) ←holding [ov] (getMethod ov m pl)
   callWith pos f first (backTo pos (starEach (e ::es) X.env)) (backToKw pos (keywordEach [] X.env))):=by rfl) :
 PX X cl (.Call (.Attribute o m apos) (e ::es) [] pos) (jN c m g fo fs):=by
 obtain⟨f,fd,ps,hC,hm,F,hb⟩:=M
 refine⟨(DA ho.1 hC hm F (hr.mono hkj) hb .nil uh ha.1 hst hpl ht).imp fun σ H Q ⟨ρ,S,δ,v,S',E,hf,q⟩=>?_⟩
 obtain⟨ov,S1,h1,h2⟩:=R3.aq hf
 split at h2
 ·rename_i kk
  split at h2
  ·rename_i ys e1
   split at h2
   ·rename_i e2'
    obtain⟨vs,S2,h3,h4⟩:=R3.aq h2
    refine⟨ρ,S,δ, .loc kk,S1,E,h1,fun u ρ1 H1 p1 w1 r1=>?_⟩
    have r1':=r1
    unfold bh at r1
    obtain⟨a,a1,rfl⟩:=r1
    obtain⟨dx,zs,ey,ek,rs⟩:=w1.ob kk a _ a1 (j5 e1)
    refine⟨a,dx,zs,rfl,ey,uY ek e2',ρ1,S1,δ,vs,S2,E.to p1 w1,h3,fun us ρ2 H2 p2 w2 r2=>?_⟩
    show Au X.K cl (n+1) g (V.ref a ::(us++[])) H2 Q E0
    rw[List.append_nil]
    exact⟨by rw[List.length_cons,←r2.length,hn δ S1 vs S2 h3],ρ2,S2, .loc kk ::vs,v,S',w2,aG.cons (r1'.pre p2) r2,h4,fun z ρ3 H3 p3 w3 r3=>q z ρ3 H3 (p1.trans (p2.trans p3)) w3 r3⟩
   ·cases h2
  ·cases h2
 ·cases h2
noncomputable def nR(P:Program)(w:World)(K:PySem.W.Frag)(mg:Str→Option Value)(base:Heap)(cl:Nat→Addr)(k c:Nat)(x:Str)(n:Nat)(g:List V3→aN→R3 V3):Prop:=
 ∃(f:Addr) (fd:FuncData) (ps:List Str),Mk K (cl c) f∧ig P w K mg base rq k f fd ps (Au K cl (n+1) g)∧mg x=some (.ref (cl c))∧Binds K fd ps []
noncomputable def si(c:Nat)(g:List V3→aN→R3 V3)(fs:FA):FX:=fun δ S=>(fs δ S).bind fun vs S1=>(g (.loc S1.length ::vs) (S1++[.ins c []])).bind fun v S2=>match v with
 | .d .cS=> .ok (.loc S1.length) S2
 | _=> .no
theorem pI{g:List V3→aN→R3 V3}{k j n c:Nat}{x:Str}{p pos:Pos}{e:Expr}{es:List Expr}{fs:FA}(M:nR X.prog X.w X.K X.mg X.base cl k c x n g)(hr:et j X.A)(hkj:k+1≤j)(hg:Gl X x)(ha:Cm X cl (e ::es) fs)(hn:∀δ S ds S',fs δ S= .ok ds S'→ds.length=n)
 (hdb:(x==("__debug__":Str))=false:=by decide) (he:starEach (e ::es) X.env=(false,eval e X.env) ::starEach es X.env:=by rfl) (hpl:(backTo pos (starEach es X.env)).any (·.1)=false:=by rfl) :
 PX X cl (.Call (.Name x p) (e ::es) [] pos) (si c g fs):=by
 obtain⟨f,fd,ps,M,F,hm,hb⟩:=M
 refine⟨(Ee M F (hr.mono hkj) hg hm hb .nil uh ha.1 hdb he hpl).imp fun σ H Q ⟨ρ,S,δ,v,S',E,hf,q⟩=>?_⟩
 obtain⟨vs,S1,h1,h2⟩:=R3.aq hf
 obtain⟨v0,S2,h3,h4⟩:=R3.aq h2
 split at h4
 ·cases h4
  refine⟨ρ,S,δ,vs,S1,E,h1,fun us ρ1 H1 p1 w1 r1 xa dx hx hdx hne=>?_⟩
  have hx1:upd H1 dx (.own xa) xa=none:=by rw[bf (fun z=>hne z.symm)];exact hx
  have sm:aU H1 (upd (upd H1 dx (.own xa)) xa (.ins (cl c) dx [])):=(bb hdx).trans (bb hx1)
  obtain⟨w2,p2⟩:=w1.new (a:=xa) (o:= .ins c []) sm hx ⟨dx,[],bc,rfl,aG.nil⟩
  show Au X.K cl (n+1) g (V.ref xa ::(us++[])) _ _ E0
  rw[List.append_nil]
  have rl:bh X.K (ρ1.push xa) (upd (upd H1 dx (.own xa)) xa (.ins (cl c) dx [])) (.loc S1.length) (.ref xa):=by
   unfold bh
   exact⟨xa,by show(ρ1.r++[xa])[_]? =_;rw [←w1.len,List.getElem?_append_right (Nat.le_refl _),Nat.sub_self];rfl,rfl⟩
  exact⟨by rw[List.length_cons,←r1.length,hn δ S vs S1 h1],_,_, .loc S1.length ::vs, .d .cS,_,w2,aG.cons rl (r1.pre p2),h3,fun z ρ3 H3 p3 w3 r3=>⟨by unfold bh Rep at r3;exact r3,q _ ρ3 H3 (p1.trans (p2.trans p3)) w3 (rl.pre p3)⟩⟩
 ·cases h4
noncomputable def tQ(c:Nat)(f:Str)(fo fe:FX):FZ:=fun δ S=>(fe δ S).bind fun v S1=>(fo δ S1).bind fun o S2=>match o with
 | .loc k=>(match kR S2 c k with | some fs=>R3.cc (decide (fs.length < 1000)) (.ok (.nx δ) (S2.set k (.ins c (uU f v fs)))) | none=> .no)
 | _=> .no
theorem mJ{c:Nat}{o value:Expr}{f:Str}{fo fe:FX}{pos pos':Pos}(hC:ud X.K (cl c))(hn:c6 X.K (cl c) f)(ho:PX X cl o fo)(he:PX X cl value fe)(hs:swapsWith value (some (.Attribute o f pos')) pos.line X.env=pure false:=by rfl) :
 PZ X cl (.Assign [.Attribute o f pos'] value pos) (tQ c f fo fe):=⟨(FF ho.1 he.1 hs).imp fun D σ H ⟨ρ,S,δ,ou,S',E,hf,q⟩=>by
 obtain⟨v,S1,h1,h2⟩:=R3.aq hf
 obtain⟨vo,S2,h3,h4⟩:=R3.aq h2
 split at h4
 ·rename_i k
  split at h4
  ·rename_i fs e1
   obtain⟨hl,h5⟩:=R3.br h4
   cases h5
   refine⟨ρ,S,δ,v,S1,E,h1,fun u ρ1 H1 p1 w1 r1=>⟨ρ1,S1,δ, .loc k,S2,E.to p1 w1,h3,fun u2 ρ2 H2 p2 w2 r2=>?_⟩⟩
   unfold bh at r2
   obtain⟨a,a1,rfl⟩:=r2
   obtain⟨dx,ys,ey,ek,rs⟩:=w2.ob k a _ a1 (j5 e1)
   have hlen:ys.length=fs.length:=by have:=congrArg List.length ek;simpa using this
   obtain⟨k1,k2⟩:=x3 (f:=f) (r1.pre p2) ek rs
   obtain⟨w3,p3⟩:=w2.put (o:= .ins c (uU f v fs)) (u:= .ins (cl c) dx (jy f u ys)) a1 (w2.fz k a a1 (by rw[j5 e1];intro h;cases h)) ⟨dx,_,rfl,k1,k2⟩
   exact⟨a,cl c,dx,ys,rfl,ey,hC,hn,by rw[hlen];exact of_decide_eq_true hl,q σ ρ2 _ (p1.trans (p2.trans p3)) (E.to (p1.trans (p2.trans p3)) w3)⟩
  ·cases h4
 ·cases h4⟩
theorem iV{c k:Nat}{f:Str}{fo fe:FX}{δ:DE}{S:aN}{QO:Ou→aN→Prop}(h:W3 (fe δ S) fun v S1=>W3 (fo δ S1) fun o S2=>∃fs,o= .loc k∧S2[k]? =some (.ins c fs)∧fs.length < 1000∧QO (.nx δ) (S2.set k (.ins c (uU f v fs)))):W3 (tQ c f fo fe δ S) QO:=
 W3.bind (h.mono fun v S1 h=>W3.bind (h.mono fun o S2 ⟨fs,e1,e2',hl,q⟩=>by
  subst e1
  have e4:kR S2 c k=some fs:=by unfold kR;simp only[e2',if_true]
  simp only[e4]
  exact W3.wh (decide_eq_true hl) (W3.ok q)))
theorem iK{c k:Nat}{m:Str}{g:List V3→aN→R3 V3}{fo:FX}{fs:FA}{δ:DE}{S:aN}{Q:V3→aN→Prop}(h:W3 (fo δ S) fun o S1=>∃ys,o= .loc k∧S1[k]? =some (.ins c ys)∧ys.lookup m=none∧W3 (fs δ S1) fun vs S2=>W3 (g (.loc k ::vs) S2) Q):W3 (jN c m g fo fs δ S) Q:=
 W3.bind (h.mono fun o S1 ⟨ys,e1,e2',e3,h⟩=>by
  subst e1
  have e4:kR S1 c k=some ys:=by unfold kR;simp only[e2',if_true]
  simp only[e4,e3]
  exact W3.bind h)
theorem tO{c:Nat}{g:List V3→aN→R3 V3}{fs:FA}{δ:DE}{S:aN}{Q:V3→aN→Prop}(h:W3 (fs δ S) fun vs S1=>W3 (g (.loc S1.length ::vs) (S1++[.ins c []])) fun v S2=>v= .d .cS∧Q (.loc S1.length) S2):W3 (si c g fs δ S) Q:=
 W3.bind (h.mono fun vs S1 h=>W3.bind (h.mono fun v S2 ⟨e,q⟩=>by subst e;exact W3.ok q))
end
end L3
end
section
set_option maxRecDepth 100000
set_option maxHeartbeats 4000000
namespace PySem
open Sem (wp)
noncomputable def gg(t:Bool)(h:Heap)(i l:Addr)(k:Nat):Prop:=cond t (h.IsTupleIter i l k) (h.IsListIter i l k)
noncomputable def i8(t:Bool)(h:Heap)(l:Addr)(xs:Array Value):Prop:=cond t (h.IsTuple l xs) (h.IsList l xs)
noncomputable def qL(t:Bool):String:=cond t "tuple_iterator" "list_iterator"
theorem gg.at{t:Bool}{h h':Heap}{i l:Addr}{k:Nat}(x:gg t h i l k)(e:∀o,h.get? i=some o→h'.get? i=some o):gg t h' i l k:=by
 cases t with
 | true=>exact Heap.IsTupleIter.at x e
 | false=>exact Heap.IsListIter.at x e
theorem i8.at{t:Bool}{h h':Heap}{l:Addr}{xs:Array Value}(x:i8 t h l xs)(e:∀o,h.get? l=some o→h'.get? l=some o):i8 t h' l xs:=by
 cases t with
 | true=>exact Heap.IsTuple.at x e
 | false=>exact Heap.IsList.at x e
theorem gg.xb{t:Bool}{h h':Heap}{i l b:Addr}{k:Nat}(x:gg t h i l k)(hs:Heap.ExtBut b h h')(hab:i≠b):gg t h' i l k:=x.at fun o e=>hs i o hab e
theorem i8.xb{t:Bool}{h h':Heap}{l b:Addr}{xs:Array Value}(x:i8 t h l xs)(hs:Heap.ExtBut b h h')(hab:l≠b):i8 t h' l xs:=x.at fun o e=>hs l o hab e
theorem gg.ob{t:Bool}{h:Heap}{i l:Addr}{k:Nat}(x:gg t h i l k):∃o,h.get? i=some o∧∀v,o.data≠ .cell v:=by
 cases t with
 | true=>obtain⟨o,e,_,d⟩:=x;exact⟨o,e,fun v z=>by rw[d] at z;cases z⟩
 | false=>obtain⟨o,e,_,d⟩:=x;exact⟨o,e,fun v z=>by rw[d] at z;cases z⟩
theorem i8.lt{t:Bool}{h:Heap}{l:Addr}{xs:Array Value}(x:i8 t h l xs):l < h.objs.size:=by
 cases t with
 | true=>obtain⟨o,e,_⟩:=x;exact Heap.lt_size e
 | false=>obtain⟨o,e,_⟩:=x;exact Heap.lt_size e
theorem gg.lt{t:Bool}{h:Heap}{i l:Addr}{k:Nat}(x:gg t h i l k):i < h.objs.size:=let⟨_,e,_⟩:=x.ob;Heap.lt_size e
section
variable {prog:Program} {w:World} {A:Around} {E:Value→Shared→Prop} {s:Shared}
theorem iR{t:Bool}{it l:Addr}{i:Nat}{items:Array Value}{x:Value}{Q:Value→Shared→Prop}(hit:gg t s.heap it l i)(hl:i8 t s.heap l items)(hx:items[i]? =some x)
 (hQ:∀h',gg t h' it l (i+1)→Heap.SameBut it s.heap h'→Q x {s with heap:=h'}):wpAny (model prog w) A (Builtin.SmallTypes.nextOf (.ref it)) Q E s:=by
 cases t with
 | true=>exact kC hit hl hx hQ
 | false=>exact wpAny_nextOf_list_item hit hl hx hQ
theorem l3{t:Bool}{it l:Addr}{i:Nat}{items:Array Value}{Q:Value→Shared→Prop}(hh:A.handled=none)(hit:gg t s.heap it l i)(hl:i8 t s.heap l items)(hx:items[i]? =none)
 (hE:∀h' e,Heap.ExtBut it s.heap h'→(∃o,h'.get? e=some o∧o.cls= .type "StopIteration")→E (.ref e) {s with heap:=h'}):wpAny (model prog w) A (Builtin.SmallTypes.nextOf (.ref it)) Q E s:=by
 cases t with
 | true=>exact iU hh hit hl hx hE
 | false=>exact wpAny_nextOf_list_end hh hit hl hx hE
theorem sG{t:Bool}{l:Addr}{items:Array Value}{Q:Value→Shared→Prop}(hl:i8 t s.heap l items)
 (hQ:Q (.ref s.heap.objs.size) {s with heap:=s.heap.push {cls:= .type (qL t),data:= .fields #[.ref l, .int 0 0]}}):wpAny (model prog w) A (pyIter (.ref l)) Q E s:=by
 cases t with
 | true=>exact wpAny_pyIter_tuple hl hQ
 | false=>exact wpAny_pyIter_list hl hQ
theorem y1{t u:Bool}{z TI TO i1 i2 l1 l2:Addr}{k1 k2:Nat}{xs ys:Array Value}{x y a b:Value}{Q:Value→Shared→Prop}(D:ZipApart z TI TO i1 i2 l1 l2)(hz:IsZip s.heap z TI TO .none)(hTI:IsPair s.heap TI (.ref i1) (.ref i2))
 (hTO:IsPair s.heap TO a b) (h1:gg t s.heap i1 l1 k1) (h2:gg u s.heap i2 l2 k2) (hl1:i8 t s.heap l1 xs) (hl2:i8 u s.heap l2 ys) (hx:xs[k1]? =some x) (hy:ys[k2]? =some y)
 (hQ:∀h',IsZip h' z TI TO (rawInt s.heap.objs.size)→IsPair h' TO x y→gg t h' i1 l1 (k1+1)→gg u h' i2 l2 (k2+1)→IsPair h' s.heap.objs.size x y→h'.objs.size=s.heap.objs.size+1→(∀c o,c≠z→c≠TO→c≠i1→c≠i2→s.heap.get? c=some o→h'.get? c=some o)→Q (.ref s.heap.objs.size) {s with heap:=h'}) :
 wpAny (model prog w) A (Builtin.«zip.__next__» ⟨[.ref z],[]⟩) (fun fin s'=>∃v,fin= .done (.ret v)∧Q v s') E s:=by
 show wpAny _ _ (field (.ref z) 2 >>=_) _ _ _;refine wpAny_bind (wpAny_field hz rfl (x:= .bool false) rfl ?_);show wpAny _ _ (field (.ref z) 3 >>=_) _ _ _
 refine wpAny_bind (wpAny_field hz rfl (x:= .ref TI) rfl ?_);refine wpAny_bind (wpAny_seqItems hTI rfl ?_);show wpAny _ _ (Builtin.SmallTypes.ownedTupleIsFree (.ref z) >>=_) _ _ _
 refine wpAny_bind ?_;unfold Builtin.SmallTypes.ownedTupleIsFree;refine wpAny_bind (wpAny_field hz rfl (x:= .none) rfl (wpAny_pure ?_));simp only[if_true]
 refine wpAny_bind (wpAny_rule ?_);refine wpAny_bind (wpAny_field hz rfl (x:= .ref TO) rfl ?_);refine wpAny_bind (wpAny_setField_rec hz (by simp) fun h₁ hz₁ hs₁=>?_)
 replace hz₁:IsZip h₁ z TI TO .ellipsis:=hz₁;refine wpAny_bind ?_;simp only[List.zipIdx_cons,List.zipIdx_nil,List.forIn_cons,List.forIn_nil]
 refine wpAny_bind (wpAny_bind (wpAny_onRaise ?_));show wpAny _ _ (Builtin.SmallTypes.nextOf (.ref i1) >>=_) _ _ _
 refine wpAny_bind (iR (h1.xb hs₁.extBut D.i1z) (hl1.xb hs₁.extBut D.l1z) hx fun h₂ h1₂ hs₂=>wpAny_pure ?_)
 have hTO₂:IsPair h₂ TO a b:=hs₂.extBut _ _ D.TOi1 (hs₁.extBut _ _ D.TOz hTO);refine wpAny_bind (wpAny_seqItems hTO₂ rfl ?_);refine wpAny_bind (wpAny_updateSeq_pair hTO₂ fun h₃ hTO₃ hs₃=>?_)
 replace hTO₃:IsPair h₃ TO x b:=hTO₃;refine wpAny_bind (wpAny_letGo (wpAny_pure ?_));refine wpAny_bind (wpAny_bind (wpAny_onRaise ?_));show wpAny _ _ (Builtin.SmallTypes.nextOf (.ref i2) >>=_) _ _ _
 refine wpAny_bind (iR (((h2.xb hs₁.extBut D.i2z).xb hs₂.extBut D.i12.symm).xb hs₃.extBut D.TOi2.symm) (((hl2.xb hs₁.extBut D.l2z).xb hs₂.extBut D.l2i1).xb hs₃.extBut D.l2TO) hy fun h₄ h2₄ hs₄=>wpAny_pure ?_)
 have hTO₄:IsPair h₄ TO x b:=hs₄.extBut _ _ D.TOi2 hTO₃;refine wpAny_bind (wpAny_seqItems hTO₄ rfl ?_);refine wpAny_bind (wpAny_updateSeq_pair hTO₄ fun h₅ hTO₅ hs₅=>?_)
 replace hTO₅:IsPair h₅ TO x y:=hTO₅;refine wpAny_bind (wpAny_letGo (wpAny_pure (wpAny_pure ?_)));refine wpAny_bind (wpAny_seqItems hTO₅ rfl ?_);refine wpAny_bind (wpAny_newTuple ?_)
 have hsz:h₅.objs.size=s.heap.objs.size:=(hs₅.1.trans (hs₄.1.trans (hs₃.1.trans (hs₂.1.trans hs₁.1))))
 have hz₅:IsZip h₅ z TI TO .ellipsis:=hs₅.extBut _ _ D.TOz.symm <| hs₄.extBut _ _ D.i2z.symm <| hs₃.extBut _ _ D.TOz.symm <| hs₂.extBut _ _ D.i1z.symm hz₁
 have hk₅:∀c o,c≠z→c≠TO→c≠i1→c≠i2→s.heap.get? c=some o→h₅.get? c=some o:=fun c o c1 c2 c3 c4 e=>hs₅.extBut _ _ c2 <| hs₄.extBut _ _ c4 <| hs₃.extBut _ _ c2 <| hs₂.extBut _ _ c3 <| hs₁.extBut _ _ c1 e
 have h1₅:gg t h₅ i1 l1 (k1+1):=((h1₂.xb hs₃.extBut D.TOi1.symm).xb hs₄.extBut D.i12).xb hs₅.extBut D.TOi1.symm
 have h2₅:gg u h₅ i2 l2 (k2+1):=h2₄.xb hs₅.extBut D.TOi2.symm
 have hzlt:=Heap.lt_size hz₅
 show wpAny _ _ (Builtin.SmallTypes.ownedTupleHandOut (.ref z) (.ref h₅.objs.size) >>=_) _ _ _;refine wpAny_bind ?_;unfold Builtin.SmallTypes.ownedTupleHandOut
 have hz₆:IsZip (h₅.push {cls:= .type "tuple",data:= .seq #[x,y]}) z TI TO .ellipsis:=Heap.get?_push_of_some _ hz₅;refine wpAny_bind (wpAny_setField_rec hz₆ (by simp) fun h₇ hz₇ hs₇=>?_)
 replace hz₇:IsZip h₇ z TI TO (rawInt h₅.objs.size):=hz₇;refine wpAny_setField_rec hz₇ (by simp) fun h₈ hz₈ hs₈=>?_;replace hz₈:IsZip h₈ z TI TO (rawInt h₅.objs.size):=hz₈
 have up:∀c o,c≠z→h₅.get? c=some o→h₈.get? c=some o:=fun c o c1 e=>hs₈.extBut _ _ c1 <| hs₇.extBut _ _ c1 (Heap.get?_push_of_some _ e)
 have hT₈:IsPair h₈ h₅.objs.size x y:=hs₈.extBut _ _ (Nat.ne_of_gt hzlt) <| hs₇.extBut _ _ (Nat.ne_of_gt hzlt) (Heap.get?_push_size _ rfl)
 have hz8:h₈.objs.size=h₅.objs.size+1:=(hs₈.1.trans hs₇.1).trans (Heap.size_push ..)
 rw[hsz] at hz₈ hT₈ hz8;refine wpAny_pure ⟨_,rfl,?_⟩;show Q (.ref h₅.objs.size) _;rw [hsz]
 exact hQ h₈ hz₈ (up _ _ D.TOz hTO₅) (h1₅.at fun o e=>up _ o D.i1z e) (h2₅.at fun o e=>up _ o D.i2z e) hT₈ hz8 fun c o c1 c2 c3 c4 e=>up c o c1 (hk₅ c o c1 c2 c3 c4 e)
theorem Ak{t u:Bool}{z TI TO i1 i2 l1 l2:Addr}{k1 k2:Nat}{xs ys:Array Value}{a b:Value}{Q:Fin→Shared→Prop}(hh:A.handled=none)(D:ZipApart z TI TO i1 i2 l1 l2)(hz:IsZip s.heap z TI TO .none)
 (hTI:IsPair s.heap TI (.ref i1) (.ref i2)) (hTO:IsPair s.heap TO a b) (h1:gg t s.heap i1 l1 k1) (h2:gg u s.heap i2 l2 k2) (hl1:i8 t s.heap l1 xs) (hl2:i8 u s.heap l2 ys) (hend:xs[k1]? =none∨ys[k2]? =none)
 (hE:∀h' e,(∀c o,c≠z→c≠TO→c≠i1→c≠i2→s.heap.get? c=some o→h'.get? c=some o)→(∃o,h'.get? e=some o∧o.cls= .type "StopIteration")→E (.ref e) {s with heap:=h'}):wpAny (model prog w) A (Builtin.«zip.__next__» ⟨[.ref z],[]⟩) Q E s:=by
 show wpAny _ _ (field (.ref z) 2 >>=_) _ _ _;refine wpAny_bind (wpAny_field hz rfl (x:= .bool false) rfl ?_);show wpAny _ _ (field (.ref z) 3 >>=_) _ _ _
 refine wpAny_bind (wpAny_field hz rfl (x:= .ref TI) rfl ?_);refine wpAny_bind (wpAny_seqItems hTI rfl ?_);show wpAny _ _ (Builtin.SmallTypes.ownedTupleIsFree (.ref z) >>=_) _ _ _
 refine wpAny_bind ?_;unfold Builtin.SmallTypes.ownedTupleIsFree;refine wpAny_bind (wpAny_field hz rfl (x:= .none) rfl (wpAny_pure ?_));simp only[if_true]
 refine wpAny_bind (wpAny_rule ?_);refine wpAny_bind (wpAny_field hz rfl (x:= .ref TO) rfl ?_);refine wpAny_bind (wpAny_setField_rec hz (by simp) fun h₁ hz₁ hs₁=>?_)
 replace hz₁:IsZip h₁ z TI TO .ellipsis:=hz₁;refine wpAny_bind ?_;simp only[List.zipIdx_cons,List.zipIdx_nil,List.forIn_cons,List.forIn_nil]
 refine wpAny_bind (wpAny_bind (wpAny_onRaise ?_));show wpAny _ _ (Builtin.SmallTypes.nextOf (.ref i1) >>=_) _ _ _
 cases hx:xs[k1]? with
 | none=>
   refine wpAny_bind (l3 hh (h1.xb hs₁.extBut D.i1z) (hl1.xb hs₁.extBut D.l1z) hx fun h₂ e hs₂ he=>?_)
   obtain⟨oe,hoe,hce⟩:=he;have hz₂:IsZip h₂ z TI TO .ellipsis:=hs₂ _ _ D.i1z.symm hz₁
   have hez:e≠z:=fun x=>by {subst x;rw [hz₂] at hoe;cases hoe;simp at hce}
   exact wpAny_setField_rec hz₂ (by simp) fun h₃ _ hs₃=>hE h₃ e (fun c o c1 _ c3 _ x=>hs₃.extBut _ _ c1 <| hs₂ _ _ c3 <| hs₁.extBut _ _ c1 x) ⟨oe,hs₃.extBut _ _ hez hoe,hce⟩
 | some x=>
   have hy:ys[k2]? =none:=hend.resolve_left fun h=>by {rw [hx] at h;cases h}
   refine wpAny_bind (iR (h1.xb hs₁.extBut D.i1z) (hl1.xb hs₁.extBut D.l1z) hx fun h₂ h1₂ hs₂=>wpAny_pure ?_)
   have hTO₂:IsPair h₂ TO a b:=hs₂.extBut _ _ D.TOi1 (hs₁.extBut _ _ D.TOz hTO);refine wpAny_bind (wpAny_seqItems hTO₂ rfl ?_);refine wpAny_bind (wpAny_updateSeq_pair hTO₂ fun h₃ hTO₃ hs₃=>?_)
   refine wpAny_bind (wpAny_letGo (wpAny_pure ?_));refine wpAny_bind (wpAny_bind (wpAny_onRaise ?_));show wpAny _ _ (Builtin.SmallTypes.nextOf (.ref i2) >>=_) _ _ _
   refine wpAny_bind (l3 hh (((h2.xb hs₁.extBut D.i2z).xb hs₂.extBut D.i12.symm).xb hs₃.extBut D.TOi2.symm) (((hl2.xb hs₁.extBut D.l2z).xb hs₂.extBut D.l2i1).xb hs₃.extBut D.l2TO) hy fun h₄ e hs₄ he=>?_)
   obtain⟨oe,hoe,hce⟩:=he;have hz₄:IsZip h₄ z TI TO .ellipsis:=hs₄ _ _ D.i2z.symm <| hs₃.extBut _ _ D.TOz.symm <| hs₂.extBut _ _ D.i1z.symm hz₁
   have hez:e≠z:=fun x=>by {subst x;rw [hz₄] at hoe;cases hoe;simp at hce}
   exact wpAny_setField_rec hz₄ (by simp) fun h₅ _ hs₅=>hE h₅ e (fun c o c1 c2 c3 c4 x=>hs₅.extBut _ _ c1 <| hs₄ _ _ c4 <| hs₃.extBut _ _ c2 <| hs₂.extBut _ _ c3 <| hs₁.extBut _ _ c1 x) ⟨oe,hs₅.extBut _ _ hez hoe,hce⟩
end
noncomputable abbrev IH(t:Bool)(h:Heap)(l1:Addr):Heap:=h.push {cls:= .type (qL t),data:= .fields #[.ref l1, .int 0 0]}
noncomputable abbrev IW(t u:Bool)(h:Heap)(l1 l2:Addr):Heap:=(IH t h l1).push {cls:= .type (qL u),data:= .fields #[.ref l2, .int 0 0]}
noncomputable abbrev IU(t u:Bool)(h:Heap)(l1 l2:Addr):Heap:=(IW t u h l1 l2).push {cls:= .type "tuple",data:= .seq #[.ref h.objs.size, .ref (IH t h l1).objs.size]}
noncomputable abbrev IK(t u:Bool)(h:Heap)(l1 l2:Addr):Heap:=(IU t u h l1 l2).push {cls:= .type "tuple",data:= .seq #[.none, .none]}
noncomputable abbrev GY(t u:Bool)(h:Heap)(l1 l2:Addr):Heap:=(IK t u h l1 l2).push {cls:= .type "zip",data:= .fields #[.none, .bool false, .bool false, .ref (IW t u h l1 l2).objs.size, .ref (IU t u h l1 l2).objs.size]}
theorem xy(t u:Bool)(l1 l2:Addr)(xs ys:Array Value):Meets (Builtin.«zip.__new__» ⟨[.type "zip", .ref l1, .ref l2],[]⟩) (fun _ R s=>i8 t s.heap l1 xs∧i8 u s.heap l2 ys∧R (.ok (.ret (.ref (IK t u s.heap l1 l2).objs.size))) {s with heap:=GY t u s.heap l1 l2}):=
 .of_wp fun prog w A R s h=>by
  obtain⟨hp,g,d,tk,os⟩:=s
  obtain⟨hl1,hl2,h⟩:=h;have hsub:=sub_zip
  have hL1:i8 t (Shared.heap ⟨hp,g,d,tk,os⟩) l1 xs:=hl1
  have hL2:i8 u (Shared.heap ⟨hp.push {cls:= .type (qL t),data:= .fields #[.ref l1, .int 0 0]},g,d,tk,os⟩) l2 ys:=hl2.at fun o e=>Heap.get?_push_of_some _ e
  wp_walk using sG hL1,sG hL2
  exact⟨_,rfl,h⟩
theorem gg.new{t:Bool}{h:Heap}{i l:Addr}(e:h.get? i=some {cls:= .type (qL t),data:= .fields #[.ref l, .int 0 0]}):gg t h i l 0:=by
 cases t with
 | true=>exact⟨_,e,rfl,rfl⟩
 | false=>exact⟨_,e,rfl,rfl⟩
theorem zy{prog:Program}{w:World}{A:Around}{E:Value→Shared→Prop}{s:Shared}{t u:Bool}{l1 l2:Addr}{xs ys:Array Value}{Q:Value→Shared→Prop}(hl1:i8 t s.heap l1 xs)(hl2:i8 u s.heap l2 ys)
 (h:∀h',IsZip h' (s.heap.objs.size+4) (s.heap.objs.size+2) (s.heap.objs.size+3) .none→IsPair h' (s.heap.objs.size+2) (.ref s.heap.objs.size) (.ref (s.heap.objs.size+1))→IsPair h' (s.heap.objs.size+3) .none .none→
   gg t h' s.heap.objs.size l1 0→gg u h' (s.heap.objs.size+1) l2 0→(∀c o,s.heap.get? c=some o→h'.get? c=some o)→Q (.ref (s.heap.objs.size+4)) {s with heap:=h'}):wpAny (model prog w) A (call (.type "zip") [.ref l1, .ref l2]) Q E s:=by
 refine callType_new F.called_zip (by decide) (F.typeCall_zip_2 _ _) (F.newCall_zip_2 _ _) (fun obj=>F.args_object_init_3 obj _ _) F.entry_zip_new (xy t u l1 l2 xs ys) ⟨hl1,hl2,?_⟩
 have z1:(IH t s.heap l1).objs.size=s.heap.objs.size+1:=Heap.size_push ..
 have z2:(IW t u s.heap l1 l2).objs.size=s.heap.objs.size+2:=(Heap.size_push ..).trans (congrArg (·+1) z1)
 have z3:(IU t u s.heap l1 l2).objs.size=s.heap.objs.size+3:=(Heap.size_push ..).trans (congrArg (·+1) z2)
 have z4:(IK t u s.heap l1 l2).objs.size=s.heap.objs.size+4:=(Heap.size_push ..).trans (congrArg (·+1) z3)
 have g5:(GY t u s.heap l1 l2).get? (IK t u s.heap l1 l2).objs.size=some _:=Heap.get?_push_size _ rfl
 have g4:(GY t u s.heap l1 l2).get? (IU t u s.heap l1 l2).objs.size=some _:=Heap.get?_push_of_some _ (Heap.get?_push_size _ rfl)
 have g3:(GY t u s.heap l1 l2).get? (IW t u s.heap l1 l2).objs.size=some _:=Heap.get?_push_of_some _ <| Heap.get?_push_of_some _ (Heap.get?_push_size _ rfl)
 have g2:(GY t u s.heap l1 l2).get? (IH t s.heap l1).objs.size=some _:=Heap.get?_push_of_some _ <| Heap.get?_push_of_some _ <| Heap.get?_push_of_some _ (Heap.get?_push_size _ rfl)
 have g1:(GY t u s.heap l1 l2).get? s.heap.objs.size=some _:=Heap.get?_push_of_some _ <| Heap.get?_push_of_some _ <| Heap.get?_push_of_some _ <| Heap.get?_push_of_some _ (Heap.get?_push_size _ rfl)
 show _∧_
 rw[z2,z3,z4] at g5;rw [z1,z2] at g3;rw [z3] at g4;rw [z1] at g2;rw [z4]
 exact⟨⟨_,g5,rfl⟩,h _ g5 g3 g4 (gg.new g1) (gg.new g2) fun c o x=>Heap.get?_push_of_some _ <| Heap.get?_push_of_some _ <| Heap.get?_push_of_some _ <| Heap.get?_push_of_some _ <| Heap.get?_push_of_some _ x⟩
end PySem
namespace L2
open PySem PySem.Spec PyProof.Rows
noncomputable def Cq(t:Bool)(K:PySem.W.Frag)(H:Hp)(a:Addr)(xs:List V):Prop:=cond t (pC K H a xs) (nV K H a xs)
theorem Inv.Dy{X:Cx}{pins:List (Addr × Obj)}{σ:L2.St}{H:Hp}{s:Shared}{t:Bool}{a:Addr}{xs:List V}(I:Inv X pins σ H s)(h:Cq t X.K H a xs):∃its:List Value,Vals xs its∧i8 t s.heap a its.toArray:=by
 cases t with
 | true=>obtain⟨its,r,p,_⟩:=I.tuple h;exact⟨its,r,p⟩
 | false=>obtain⟨its,r,p,_⟩:=I.list h;exact⟨its,r,p.isList⟩
theorem Inv.yn{X:Cx}{pins:List (Addr × Obj)}{σ:L2.St}{H:Hp}{s:Shared}{t:Bool}{a:Addr}{xs ys:List V}(I:Inv X pins σ H s)(h:Cq t X.K H a xs)(h':Cq t X.K H a ys):xs=ys:=by
 cases t with
 | true=>exact I.oA h h'
 | false=>exact I.nF h h'
noncomputable def Lq(K:PySem.W.Frag)(t u:Bool)(a b:Addr):It:=
 ⟨fun i H=>∃xs ys x y,Cq t K H a xs∧Cq u K H b ys∧xs[i]? =some x∧ys[i]? =some y,
  fun i H v H'=>∃p x y,H p=none∧v= .ref p∧(∀xs,Cq t K H a xs→xs[i]? =some x)∧(∀ys,Cq u K H b ys→ys[i]? =some y)∧H'=upd H p (.tup [x,y]),
  fun i H=>∃xs ys,Cq t K H a xs∧Cq u K H b ys∧(xs.length≤i∨ys.length≤i)⟩
theorem Cc{P:Program}{w:World}{K:PySem.W.Frag}{elts:List Expr}{k:Nat}{pos:Pos}{t u:Bool}{z TI TO i1 i2 a b:Addr}(D:ZipApart z TI TO i1 i2 a b):Turn P w K (.Tuple elts k pos) (Lq K t u a b) [z,TI,TO,i1,i2] z
 (fun i h=>IsZip h z TI TO .none∧IsPair h TI (.ref i1) (.ref i2)∧(∃x y,IsPair h TO x y)∧gg t h i1 a i∧gg u h i2 b i) where
 mem:=by simp
 obj:=fun i h st c hc=>by
  obtain⟨hz,hTI,⟨x,y,hTO⟩,h1,h2⟩:=st
  simp only[List.mem_cons,List.not_mem_nil,or_false] at hc
  rcases hc with rfl | rfl | rfl | rfl | rfl
  ·exact⟨_,hz,fun v z=>by cases z⟩
  ·exact⟨_,hTI,fun v z=>by cases z⟩
  ·exact⟨_,hTO,fun v z=>by cases z⟩
  ·exact h1.ob
  ·exact h2.ob
 keep:=fun i h h' st k=>by
  obtain⟨hz,hTI,⟨x,y,hTO⟩,h1,h2⟩:=st
  exact⟨k z (by simp) _ hz,k TI (by simp) _ hTI,⟨x,y,k TO (by simp) _ hTO⟩,h1.at fun o e=>k i1 (by simp) o e,h2.at fun o e=>k i2 (by simp) o e⟩
 item:=by
  intro X hP hw hK hc i pins s σ H E I hf st hg
  subst hP hw hK
  obtain⟨xs,ys,x,y,hq,hr,hx,hy⟩:=hg
  obtain⟨its,rv,p⟩:=I.Dy hq
  obtain⟨jts,rw',p'⟩:=I.Dy hr
  obtain⟨ux,hu,ru⟩:=rv.get hx
  obtain⟨uy,hu',ru'⟩:=rw'.get hy
  obtain⟨hz,hTI,⟨a0,b0,hTO⟩,h1,h2⟩:=st
  have hT:s.TypeIs (.ref z) "zip":=⟨_,hz,rfl⟩
  unfold pyNext
  refine wpAny_bind (wpAny_attempt (wpAny_callSpecial?_slot (name:=Str.ofString "__next__") hT F.slot_zip_next (wpAny_call_entry F.slot_zip_next hT F.entry_zip_next (y1 D hz hTI hTO h1 h2 p p' (x:=ux) (y:=uy) (by simpa using hu) (by simpa using hu') fun h₁ a1 a2 a3 a4 a5 a6 hk₁=>wpAny_pure ?_) (F.args_zip_next_1 _))))
  refine⟨_,rfl,wpAny_letOwnedTupleGo_zip a1 fun h₂ hz₂ hs₂=>?_⟩
  replace hs₂:Heap.SameBut z h₁ h₂:=hs₂
  have hzl:z < s.heap.objs.size:=Heap.lt_size hz
  have ht₂:h₂.get? s.heap.objs.size=some {cls:= .type "tuple",data:= .seq #[ux,uy]}:=(hs₂.2 _ (Nat.ne_of_gt hzl)).trans a5
  have kk:∀b o,b≠z→b≠TO→b≠i1→b≠i2→s.heap.get? b=some o→h₂.get? b=some o:=fun b o c1 c2 c3 c4 q=>(hs₂.2 b c1).trans (hk₁ b o c1 c2 c3 c4 q)
  have hn:H s.heap.objs.size=none:=I.fresh
  have sm:aU H (upd H s.heap.objs.size (.tup [x,y])):=bb hn
  have f0:∀c∈[z,TI,TO,i1,i2],H c=none:=fun c hc=>(hf c hc).1
  have nit:∀b o,H b=some o→b≠z∧b≠TO∧b≠i1∧b≠i2:=fun b o q=>by
   refine⟨fun e=>?_,fun e=>?_,fun e=>?_,fun e=>?_⟩
   ·rw[e,f0 z (by simp)] at q;cases q
   ·rw[e,f0 TO (by simp)] at q;cases q
   ·rw[e,f0 i1 (by simp)] at q;cases q
   ·rw[e,f0 i2 (by simp)] at q;cases q
  have kH:∀b o q,H b=some q→s.heap.get? b=some o→h₂.get? b=some o:=fun b o q hb e=>let⟨c1,c2,c3,c4⟩:=nit b q hb;kk b o c1 c2 c3 c4 e
  have hok:lX X.prog X.w (upd H s.heap.objs.size (.tup [x,y])) h₂:=fun b ob q=>by
   by_cases hb:b=s.heap.objs.size
   ·subst hb
    rw[bc] at q
    cases q
    exact⟨by show 2≤sizeLine;decide,[ux,uy], .cons ru (.cons ru' .nil),⟨_,ht₂,rfl,_,rfl⟩⟩
   ·rw[bf hb] at q
    refine(I.hok b ob q).sZ (fun c v hc e=>?_) (fun c e=>sm c _ e) fun c ys e=>sm c _ e
    rcases hc with rfl | hc
    ·exact kH c v _ q e
    ·exact kH c v _ hc e
  have nch:∀b,b ∉ [z,TI,TO,i1,i2]→b≠z∧b≠TO∧b≠i1∧b≠i2:=fun b hb=>⟨fun e=>hb (by simp [e]),fun e=>hb (by simp [e]),fun e=>hb (by simp [e]),fun e=>hb (by simp [e])⟩
  have kc:∀b o,b ∉ [z,TI,TO,i1,i2]→s.heap.get? b=some o→h₂.get? b=some o:=fun b o hb e=>let⟨c1,c2,c3,c4⟩:=nch b hb;kk b o c1 c2 c3 c4 e
  have I2:Inv X pins σ (upd H s.heap.objs.size (.tup [x,y])) {s with heap:=h₂,toks:=s.toks}:=by
   refine I.step (g':=s.gens) (d':=s.drawn) (ch:=[z,TI,TO,i1,i2]) (fun b hb=>?_) (fun b o _ _ hb q _=>kc b o hb q) (fun b o _ _ hb q _=>⟨o.slots,kc b o hb q⟩)
    (fun b o hb q n=>by rw[bf (Nat.ne_of_lt (Heap.lt_size q))];exact n) (fun b o hb q=>⟨o,kc b o hb q⟩) (fun b ys e=>sm b _ e) (fun b o u e=>sm b _ e) (fun b ps e=>⟨#[],by rw[sm b _ e];simp⟩) (fun m hm=>?_) hok I.bare
   ·obtain⟨g0,g1,g2,g3,g4,g5⟩:=hf b hb
    exact⟨g3,g1,g4,g5⟩
   ·obtain⟨o,es,ep,ho,r⟩:=hm
    refine⟨o,es,ep,kc _ o (fun hb=>?_) ho,r⟩
    exact(hf _ hb).2.1 rfl
  have up:∀c,c≠z→∀o,h₁.get? c=some o→h₂.get? c=some o:=fun c hc o e=>(hs₂.2 c hc).trans e
  refine⟨.ref s.heap.objs.size,_,I2,rfl,⟨s.heap.objs.size,x,y,hn,rfl,fun zs hy'=>(by rw[I.yn hy' hq];exact hx),fun zs hy'=>(by rw[I.yn hy' hr];exact hy),rfl⟩,
   ⟨hz₂,up _ D.TIz _ (hk₁ TI _ D.TIz D.TITO D.TIi1 D.TIi2 hTI),⟨_,_,up _ D.TOz _ a2⟩,a3.at fun o e=>up _ D.i1z o e,a4.at fun o e=>up _ D.i2z o e⟩,fun c hc=>?_⟩
  have hlt:c < s.heap.objs.size:=by
   simp only[List.mem_cons,List.not_mem_nil,or_false] at hc
   rcases hc with rfl | rfl | rfl | rfl | rfl
   ·exact hzl
   ·exact Heap.lt_size hTI
   ·exact Heap.lt_size hTO
   ·exact h1.lt
   ·exact h2.lt
  rw[bf (Nat.ne_of_lt hlt)]
  exact f0 c hc
 done:=by
  intro X hP hw hK hc i pins s σ H E I hf st hg
  subst hP hw hK
  obtain⟨xs,ys,hq,hr,hl⟩:=hg
  obtain⟨its,rv,p⟩:=I.Dy hq
  obtain⟨jts,rw',p'⟩:=I.Dy hr
  obtain⟨hz,hTI,⟨a0,b0,hTO⟩,h1,h2⟩:=st
  have hT:s.TypeIs (.ref z) "zip":=⟨_,hz,rfl⟩
  have l1:=rv.length
  have l2:=rw'.length
  unfold pyNext
  refine wpAny_bind (wpAny_attempt (wpAny_callSpecial?_slot (name:=Str.ofString "__next__") hT F.slot_zip_next (wpAny_call_entry F.slot_zip_next hT F.entry_zip_next (Ak (I.ok.hd hc) D hz hTI hTO h1 h2 p p' ?_ fun h' e hk he=>?_) (F.args_zip_next_1 _))))
  ·rcases hl with hl | hl
   ·exact .inl (by simp;omega)
   ·exact .inr (by simp;omega)
  obtain⟨o,ho,hcl⟩:=he
  refine wpAny_bind (wpAny_isInstance (T:="StopIteration") (b:=true) ⟨o,ho,hcl⟩ isSubtype_stop ?_)
  have nch:∀b,b ∉ [z,TI,TO,i1,i2]→b≠z∧b≠TO∧b≠i1∧b≠i2:=fun b hb=>⟨fun e=>hb (by simp [e]),fun e=>hb (by simp [e]),fun e=>hb (by simp [e]),fun e=>hb (by simp [e])⟩
  have kc:∀b o,b ∉ [z,TI,TO,i1,i2]→s.heap.get? b=some o→h'.get? b=some o:=fun b o hb e=>let⟨c1,c2,c3,c4⟩:=nch b hb;hk b o c1 c2 c3 c4 e
  have f0:∀c∈[z,TI,TO,i1,i2],H c=none:=fun c hc=>(hf c hc).1
  have kH:∀b o q,H b=some q→s.heap.get? b=some o→h'.get? b=some o:=fun b o q hb e=>kc b o (fun z=>by rw[f0 b z] at hb;cases hb) e
  refine wpAny_pure ⟨rfl,?_⟩
  refine I.step (h':=h') (H':=H) (g':=s.gens) (d':=s.drawn) (t':=s.toks) (ch:=[z,TI,TO,i1,i2]) (fun b hb=>?_) (fun b o _ _ hb q _=>kc b o hb q) (fun b o _ _ hb q _=>⟨o.slots,kc b o hb q⟩)
   (fun b o hb q n=>n) (fun b o hb q=>⟨o,kc b o hb q⟩) (fun b ys e=>e) (fun b o u e=>e) (fun b ps e=>⟨#[],by rw[e];simp⟩) (fun m hm=>?_) (fun b ob q=>?_) I.bare
  ·obtain⟨g0,g1,g2,g3,g4,g5⟩:=hf b hb
   exact⟨g3,g1,g4,g5⟩
  ·obtain⟨o,es,ep,ho,r⟩:=hm
   refine⟨o,es,ep,kc _ o (fun hb=>?_) ho,r⟩
   exact(hf _ hb).2.1 rfl
  ·refine(I.hok b ob q).sZ (fun c v hc e=>?_) (fun c e=>e) fun c ys e=>e
   rcases hc with rfl | hc
   ·exact kH c v _ q e
   ·exact kH c v _ hc e
 self:=fun A i s Q E st h=>wpAny_pyIter_zip st.1 h
section
variable {X:Cx}
noncomputable def uG(ds es:List D):List D:=(ds.zip es).map fun p=> .tup [p.1,p.2]
noncomputable def seqD?:D→Option (List D)
 | .lst ds=>some ds
 | .tup ds=>some ds
 | _=>none
noncomputable def J4(f g:FD):ax→R (List D):=fun δ=>(f δ).bind fun d=>(g δ).bind fun e=>match seqD? d,seqD? e with | some ds,some es=> .ok (uG ds es) | _,_=> .no
theorem Rep.Dy{K:PySem.W.Frag}{B:List Addr}{H:Hp}{d:D}{v:V}{ds:List D}(r:Rep K B H d v)(h:seqD? d=some ds):∃t a xs,v= .ref a∧(∀B' H',dE B H B' H'→Cq t K H' a xs∧aH K B' H' ds xs):=by
 cases d with
 | lst es=>
   cases h
   obtain⟨a,xs,rfl,l,rs⟩:=Rep.lst.mp r
   exact⟨false,a,xs,rfl,fun B' H' p=>⟨(l.bq p).sq,rs.bq p⟩⟩
 | tup es=>
   cases h
   obtain⟨a,xs,rfl,l,rs⟩:=Rep.tup.mp r
   refine⟨true,a,xs,rfl,fun B' H' p=>⟨?_,rs.bq p⟩⟩
   have l':sL K B' H' a xs:=l.elim (fun z=> .inl ⟨(p.rd z.2 z.1).2,(p.rd z.2 z.1).1⟩) .inr
   exact l'.sq
 | _=>cases h
noncomputable def Kw(T U:String)(f:FD):FD:=fun δ=>(f δ).bind fun d=>match d with | .dct _ _=> .no | _=> .ok (.bl (ql (tyName d) T || ql (tyName d) U))
noncomputable def LQ(lo:Int)(n:Nat):It:=⟨fun i _=>i < n,fun i H x H'=>H'=H∧x= .int (lo - i),fun i _=>n≤i⟩
noncomputable def I0(lo:Int)(n:Nat):List D:=(List.range n).map fun(i:Nat)=>D.int (lo - i)
noncomputable def Kx(f g h:FD):ax→R (List D):=fun δ=>(f δ).bind fun d=>(g δ).bind fun e=>(h δ).bind fun k=>match d,e,k with
 | .int i, .int j, .int m=>R.cc (decide (m= -1∧ -(2 ^ 60)≤i∧i < 2 ^ 60∧ -(2 ^ 60)≤j∧j < 2 ^ 60)) (.ok (I0 i (i - j).toNat)) | _,_,_=> .no
noncomputable def bls?:List D→Option (List Bool)
 | []=>some []
 | .bl b ::ds=>(bls? ds).map (b ::·)
 | _ ::_=>none
noncomputable def LC:List D→R D
 | [.lst ds]=>(match bls? ds with | some bs=> .ok (.bl (bs.all id)) | none=> .no)
 | _=> .no
noncomputable def K6:List D→R D
 | [.lst ds]=>(match bls? ds with | some bs=> .ok (.bl (bs.any id)) | none=> .no)
 | _=> .no
end
end L2
end
section
set_option maxRecDepth 100000
set_option maxHeartbeats 4000000
namespace L2
open PySem PySem.Spec PyProof.Rows
section
variable {X:Cx}
noncomputable def LS:FS:=fun _=> .no
noncomputable def Kj(f:FD):FS:=fun δ=>(f δ).bind fun _=> .ok (.nx δ)
end
end L2
namespace L3
open PySem PySem.Spec PyProof.Rows L2
section
variable {X:Cx} {cl:Nat→Addr}
noncomputable def LW:FZ:=fun _ _=> .no
noncomputable def Kc(f:ax→R (List D)):FX:=fun δ S=>(R3.of (f (bY S δ)) S).bind fun ds S=>R3.cc (jl ds) (.ok (.loc S.length) (S++[.lst ds]))
noncomputable def KY(i:Nat)(f:FX):FZ:=fun δ S=>match gz δ i with
 | none=> .no
 | some k=>match c_ S k with
   | none=> .no
   | some _=>(f δ S).bind fun v S1=>match v with
     | .d (.lst es)=>(match c_ S1 k with
       | some ds=>R3.cc (decide (ds.length+es.length≤sizeLine)) (.ok (.nx δ) (S1.set k (.lst (ds++es))))
       | none=> .no)
     | _=> .no
end
end L3
end
section
set_option maxRecDepth 100000
set_option maxHeartbeats 4000000
namespace L2
open PySem PySem.Spec PyProof.Rows
section
variable {X:Cx}
theorem z7{prog:Program}{w:World}{A:Around}{E:Value→Shared→Prop}{s:Shared}{t b:Addr}{vs ws:List Value}{Q:Value→Shared→Prop}(ht:IsTup s.heap t vs.toArray)(hb:IsTup s.heap b ws.toArray)
 (h0:vs=[]→Q (.ref b) s) (h1:vs≠[]→ws=[]→Q (.ref t) s) (h2:vs≠[]→ws≠[]→Q (.ref s.heap.objs.size) {s with heap:=s.heap.push {cls:= .type "tuple",data:= .seq (vs++ws).toArray}})
 (hsz:vs.length+ws.length≤sizeLine):wpAny (model prog w) A (binaryOp .Add (.ref t) (.ref b)) Q E s:=by
 by_cases hv:vs=[]
 ·obtain⟨⟨cls,dd,data,sl⟩,ho,hc,n,hd⟩:=id ht;obtain⟨⟨cls2,dd2,data2,sl2⟩,ho2,hc2,n2,hd2⟩:=id hb
  simp only at hc hd hc2 hd2;subst hc hd hc2 hd2
  exact concat_meets ⟨_,ho,rfl⟩ ⟨_,ho2,rfl⟩ noFill_tuple_add seq_tuple_add PySem.F.slot_tuple_add PySem.F.entry_tuple_add (PySem.F.args_tuple_add_2 _ _) (tuple_addW0 t b vs.toArray ws.toArray n n2 dd dd2 sl sl2 (by simp [hv])) ⟨ho,ho2,h0 hv⟩
 ·exact HT.CA ht hb hv (h1 hv) (h2 hv) hsz
noncomputable def jU(d e:D):R D:=match d,e with
 | .tup a, .tup b=>R.cc (decide (a.length+b.length≤sizeLine)) (.ok (.tup (a++b)))
 | d,e=>e_ d e
theorem sL.fresh{K:PySem.W.Frag}{B:List Addr}{H:Hp}{p:Addr}{xs:List V}(hb:∀a∈B,∃o,H a=some o)(hp:H p=none):sL K B (upd H p (.tup xs)) p xs:= .inl ⟨fun ha=>(by obtain⟨o,ho⟩:=hb p ha;rw [hp] at ho;cases ho), .inl bc⟩
theorem mr:kI X (binaryOp .Add) jU:=by
 intro pins s σ H B da db d x y v u I hb rx ry ra rb hg
 by_cases ht:∃a b,da= .tup a∧db= .tup b
 ·obtain⟨a,b,rfl,rfl⟩:=ht
  have hg:R.cc (decide (a.length+b.length≤sizeLine)) (.ok (.tup (a++b)))= .ok d:=hg
  obtain⟨h1,h2⟩:=R.br hg
  cases h2
  have h1:=of_decide_eq_true h1
  have ra':=ra
  have rb':=rb
  obtain⟨a1,xs1,rfl,l1,r1⟩:=Rep.tup.mp ra
  obtain⟨a2,xs2,rfl,l2,r2⟩:=Rep.tup.mp rb
  cases rx
  cases ry
  obtain⟨its,rv1,p1,_⟩:=I.tuple l1.sq
  obtain⟨its2,rv2,p2,_⟩:=I.tuple l2.sq
  have e1:=rv1.length
  have e2:=rv2.length
  have e3:=r1.length
  have e4:=r2.length
  refine z7 p1 p2 (fun z=>⟨.ref a2,H,I,rfl,aU.refl H,?_⟩) (fun _ z=>⟨.ref a1,H,I,rfl,aU.refl H,?_⟩) (fun _ _=>?_) (by omega)
  ·obtain rfl:a=[]:=List.eq_nil_of_length_eq_zero (by rw[e3,e1,z];rfl)
   exact rb'
  ·obtain rfl:b=[]:=List.eq_nil_of_length_eq_zero (by rw[e4,e2,z];rfl)
   rw[List.append_nil];exact ra'
  ·have hp:H s.heap.objs.size=none:=I.hok.fresh (Nat.le_refl _)
   refine⟨.ref s.heap.objs.size,_,I.laid (t':=s.toks) (o:= .tup (xs1++xs2)) (fun b ob q=>Heap.get?_push_of_some _ q) (Nat.le_refl _) ⟨by rw[List.length_append];omega,_,rv1.append rv2,IsTup.new _ _⟩,rfl,bb hp,Rep.tup.mpr ⟨_,_,rfl,sL.fresh hb hp,(r1.append r2).same (bb hp)⟩⟩
 ·have hg:e_ da db= .ok d:=by
   unfold jU at hg
   split at hg
   ·exact absurd ⟨_,_,rfl,rfl⟩ ht
   ·exact hg
  exact hJ pins s σ H B da db d x y v u I hb rx ry ra rb hg
theorem w_.or{tg e:Expr}{F F1 F2:ax→R (List D)}(h1:w_ X tg e F1)(h2:w_ X tg e F2)(h:∀δ ds,F δ= .ok ds→F1 δ= .ok ds∨F2 δ= .ok ds):w_ X tg e F:=
 ⟨fun pins s σ H R I ⟨Z,B,δ,ds,E,hf,q⟩=>(h δ ds hf).elim (fun z=>h1.1 pins s σ H R I ⟨Z,B,δ,ds,E,z,q⟩) fun z=>h2.1 pins s σ H R I ⟨Z,B,δ,ds,E,z,q⟩⟩
noncomputable def xM(f:FD):ax→R (List D):=fun δ=>(f δ).bind fun d=>match d with | .lst ds=> .ok (di ds) | .tup ds=> .ok (di ds) | _=> .no
theorem xA{elts:List Expr}{k:Nat}{tpos:Pos}{a:Expr}{f:FD}{p pos:Pos}(h:QD X a f)(hg:Gl X "enumerate")(hm:X.mg "enumerate"=none)(hs:starEach [a] X.env=[(false,eval a X.env)]:=by rfl):w_ X (.Tuple elts k tpos) (.Call (.Name "enumerate" p) [a] [] pos) (xM f):=
 w_.or (F1:=iZ f) (F2:=tm f) ⟨uW h.1 hg hm hs⟩ (wo h hg hm hs) fun δ ds hf=>by
  obtain⟨d,h1,h2⟩:=R.aq hf
  cases d with
  | lst es=>cases h2;exact .inl (by unfold iZ;rw [h1];rfl)
  | tup es=>cases h2;exact .inr (by unfold tm;rw [h1];rfl)
  | _=>cases h2
noncomputable def Lp(K:PySem.W.Frag)(a:Addr)(n:Nat):It:=
 ⟨fun i H=>∃xs x,nV K H a xs∧xs.length=n∧i < n∧xs[n - 1 - i]? =some x,fun i H v H'=>H'=H∧∀xs,nV K H a xs→xs[n - 1 - i]? =some v,fun i H=>(∃xs,nV K H a xs)∧i=n⟩
theorem AX{P:Program}{w:World}{K:PySem.W.Frag}{tg:Expr}(a it:Addr)(n:Nat):Turn P w K tg (Lp K a n) [it] it (fun i h=>h.IsRevIter it a ((n:Int) - 1 - (i:Int))) where
 mem:=by simp
 obj:=fun i h st b hb=>by
  have e:b=it:=by simpa using hb
  subst e
  obtain⟨o,e,c,d⟩:=st
  exact⟨o,e,fun v z=>by rw[d] at z;cases z⟩
 keep:=fun i h h' st k=>st.at fun o e=>k it (by simp) o e
 item:=by
  intro X hP hw hK hc i pins s σ H E I hf st hg
  subst hP hw hK
  obtain⟨xs,x,hq,hn,hi,hx⟩:=hg
  obtain⟨its,rv,p,hz⟩:=I.list hq
  obtain⟨u,hu,ru⟩:=rv.get hx
  obtain⟨f0,f1,f2,f3,f4,f5⟩:=hf it (by simp)
  have e0:(n:Int) - 1 - (i:Int)=((n - 1 - i:Nat):Int):=by omega
  rw[e0] at st
  refine wpAny_pyNext_rev_item st p.isList (x:=u) (by simpa using hu) fun h' st' sb=>?_
  have I1:Inv X pins σ H {s with heap:=h'}:=I.turned (t':=s.toks) (fun b o hb e=>(sb.2 b hb).trans e) f0 f1 f3 f4 f5
  have st2:h'.IsRevIter it a ((n:Int) - 1 - ((i+1:Nat):Int)):=by
   rw[show((n - 1 - i:Nat):Int) - 1=(n:Int) - 1 - ((i+1:Nat):Int) by omega] at st';exact st'
  obtain⟨o,e,c,d⟩:=id st2
  exact⟨u,rfl,yp (s:={s with heap:=h'}) e c d (by decide) ⟨x,H,I1,ru,⟨rfl,fun ys hy=>by rw[I.nF hy hq];exact hx⟩,st2,fun b hb=>(hf b hb).1⟩⟩
 done:=by
  intro X hP hw hK hc i pins s σ H E I hf st hg
  subst hP hw hK
  obtain⟨_,rfl⟩:=hg
  obtain⟨f0,f1,f2,f3,f4,f5⟩:=hf it (by simp)
  rw[show(i:Int) - 1 - (i:Int)= -1 by omega] at st
  exact wpAny_pyNext_rev_end (I.ok.hd hc) st fun h' eb=>⟨rfl,I.turned (t':=s.toks) (fun b o hb e=>eb b o hb e) f0 f1 f3 f4 f5⟩
 self:=fun _ _ _ _ _ st h=>wpAny_pyIter_revIter st h
noncomputable def Ez(f:FD):ax→R (List D):=fun δ=>(f δ).bind fun d=>match d with | .lst ds=> .ok ds.reverse | _=> .no
theorem Ce{tg a:Expr}{f:FD}{p pos:Pos}(h:QD X a f)(hg:Gl X "reversed")(hm:X.mg "reversed"=none)(hs:starEach [a] X.env=[(false,eval a X.env)]:=by rfl):w_ X tg (.Call (.Name "reversed" p) [a] [] pos) (Ez f):=by
 refine⟨?_⟩
 intro pins s σ H RR I ⟨Z,B,δ,ds,E,hf,q⟩
 obtain⟨d,h1,h2⟩:=R.aq hf
 have hA:=ic h.1 j2 hs pos pins s σ H (fun vs H1=>aU H H1∧∃v,vs=[v]∧Rep X.K B H1 d v) I ⟨Z,B,δ,d,E,h1,fun v H1 s1 r1=>⟨s1,v,rfl,r1⟩⟩
 refine Call_ (mF I hg hm boot_reversed (PyProof.Rows.callWith_type1 (dN hA fun us s1 ⟨vs,H1,I1,r1,ss,v,ev,rr⟩=>?_) hs rfl))
 subst ev
 obtain⟨u,rfl,ru⟩:=vals1 r1
 cases d with
 | lst es=>
   cases h2
   obtain⟨b,xs,rfl,l,rs⟩:=Rep.lst.mp rr
   cases ru
   obtain⟨its,rv,pl,hz⟩:=I1.list l.sq
   have e1:=rv.length
   have e2:=rs.length
   refine call_reversed_list pl.isList (wpAny_pyIter_revIter (i:=(its.toArray.size:Int) - 1) ⟨_,Heap.get?_push_size _ rfl,rfl,rfl⟩ ?_)
   refine⟨s1.heap.objs.size,[s1.heap.objs.size],_,_,H1,rfl,I1.kept (t':=s1.toks) fun b o e=>Heap.get?_push_of_some _ e,AX b _ es.length,?_,fun c hc=>?_,q _ H1 ss fun B' H' pr=>?_⟩
   ·refine⟨_,Heap.get?_push_size _ rfl,rfl,?_⟩
    show Data.fields #[.ref b,rawInt ((its.toArray.size:Int) - 1)]=Data.fields #[.ref b,rawInt ((es.length:Int) - 1 - ((0:Nat):Int))]
    rw[List.size_toArray,←e1,←e2,show((es.length:Nat):Int) - 1 - ((0:Nat):Int)=(es.length:Int) - 1 by omega]
   ·have e:c=s1.heap.objs.size:=by simpa using hc
    subst e
    exact I1.rA (Nat.le_refl _) (I1.hok.fresh (Nat.le_refl _))
   ·have l':qW X.K B' H' b xs:=l.bq pr
    have rs':=rs.bq pr
    refine⟨fun i d hd=>?_,⟨xs,l'.sq⟩,by rw[List.length_reverse]⟩
    have hi:i < es.length:=by have:=(List.getElem?_eq_some_iff.mp hd).1;rwa [List.length_reverse] at this
    rw[List.getElem?_reverse hi] at hd
    obtain⟨x,hx,rx⟩:=rs'.get hd
    refine⟨⟨xs,x,l'.sq,e2.symm,hi,hx⟩,fun v H'' yl hB'=>?_⟩
    obtain⟨rfl,hy⟩:=yl
    have hy2:=hy xs l'.sq
    rw[hx] at hy2
    cases hy2
    exact⟨aU.refl _,rx⟩
 | _=>cases h2
noncomputable def mG(K:PySem.W.Frag)(C:Addr)(m qual:Str)(st:Stmt):Prop:=∃f fd,yq K m qual st f fd∧Meth K C m f
noncomputable def yS(K:PySem.W.Frag)(C:Addr)(m qual:Str)(st:Stmt):Prop:=∃f fd,yq K m qual st f fd∧Mk K C f
end
end L2
namespace L3
open PySem PySem.Spec PyProof.Rows L2
section
variable {X:Cx} {cl:Nat→Addr}
theorem dD.p{P:Program}{w:World}{K:PySem.W.Frag}{mg:Str→Option Value}{base:Heap}{cl:Nat→Addr}{k c:Nat}{m:Str}{n:Nat}{N:List Str}{F:FZ}(C:dD P w K mg base cl k c m n (kJ N F)):dD P w K mg base cl k c m n (lU N F):=
 let⟨f,fd,ps,c1,c2,F,h⟩:=C;⟨f,fd,ps,c1,c2,F.imp fun _ _ _ _ h=>wJ h,h⟩
end
end L3
end
section
set_option maxRecDepth 100000
set_option maxHeartbeats 4000000
namespace L2
open PySem PySem.Spec PyProof.Rows
section
variable {X:Cx}
noncomputable def KJ(f:FD):ax→R (List D):=fun δ=>(f δ).bind fun d=>match d with | .int j=>R.cc (decide (-(2 ^ 62)≤j∧j < 16777216)) (.ok (cH 0 j.toNat)) | _=> .no
noncomputable def LF(f:FD):FD:=fun δ=>(f δ).bind fun d=>match d with | .lst ds=> .ok (.lst ds.reverse) | _=> .no
end
end L2
end
section
set_option maxRecDepth 100000
set_option maxHeartbeats 4000000
namespace L2
open PySem PySem.Spec PyProof.Rows
section
variable {X:Cx}
noncomputable def K7(K:PySem.W.Frag)(n:Nat)(t:BI):TG:=fun v σ H Q=>∃a xs,v= .ref a∧nV K H a xs∧xs.length=n∧t xs σ H Q
end
end L2
namespace L3
open PySem PySem.Spec PyProof.Rows L2
section
variable {X:Cx} {cl:Nat→Addr}
noncomputable def L8(n:Nat)(t:Eb):FG:=fun d δ=>match d with
 | .d (.lst ds)=>if ds.length=n then t (ds.map .d) δ else none
 | .lst vs=>if vs.length=n then t vs δ else none
 | _=>none
noncomputable def GL(f g:FX):FA:=fun δ S=>(aw f (aw g bH) δ S).bind fun vs S1=>match vs with
 | [.d d, .d e]=>(match seqD? d,seqD? e with | some ds,some es=> .ok ((uG ds es).map .d) S1 | _,_=> .no)
 | _=> .no
theorem CU{elts:List Expr}{k:Nat}{tpos:Pos}{a b:Expr}{f g:FX}{p pos:Pos}(h:PX X cl a f)(h':PX X cl b g)(hg:Gl X "zip")(hm:X.mg "zip"=none)(hs:starEach [a,b] X.env=[(false,eval a X.env),(false,eval b X.env)]:=by rfl)(hs2:starEach [b] X.env=[(false,eval b X.env)]:=by rfl) :
 GN X cl (.Tuple elts k tpos) (.Call (.Name "zip" p) [a,b] [] pos) (GL f g):=by
 refine⟨?_⟩
 intro pins s σ H RR I ⟨ρ,S,δ,vs,S',E,hf,q⟩
 obtain⟨ws,S1,h1,h2⟩:=R3.aq hf
 have hA:=(ae h (ae h' aC hs2) (by rw[hs,hs2])).1 pos pins s σ H (fun us H1=>∃ρ1,Pre ρ H ρ1 H1∧SW X.K cl ρ1 H1 S1∧aG X.K ρ1 H1 ws us) I
  ⟨ρ,S,δ,ws,S1,E,h1,fun us ρ1 H1 p1 w1 r1=>⟨ρ1,p1,w1,r1⟩⟩
 refine Call_ (mF I hg hm boot_zip (PyProof.Rows.callWith_type1 (dN hA fun us s1 ⟨xs,H1,I1,r1,ρ1,p1,w1,rr⟩=>?_) (by rw[hs,hs2]) (by rw[hs2];rfl)))
 rcases hsh:ws with _ | ⟨w0,_ | ⟨w2,_ | ⟨w3,wr⟩⟩⟩ <;> subst hsh
 ·cases h2
 ·cases w0 <;> cases h2
 ·rcases w0 with d | _ | _ | _ <;> rcases w2 with e | _ | _ | _ <;> try (cases h2;done)
  have h2:(match seqD? d,seqD? e with | some ds,some es=>R3.ok ((uG ds es).map V3.d) S1 | _,_=> .no)= .ok vs S':=h2
  cases e1:seqD? d with
  | none=>rw [e1] at h2;cases h2
  | some ls=>
    cases e2:seqD? e with
    | none=>rw [e1,e2] at h2;cases h2
    | some ms=>
      rw[e1,e2] at h2
      cases h2
      obtain⟨v,ys,ev,ra,rr⟩:=rr.cC
      obtain⟨v',zs,ev',rb,rr⟩:=rr.cC
      unfold aG at rr
      subst rr ev' ev
      obtain⟨u,u',rfl,ru,ru'⟩:=vals2 r1
      unfold bh at ra rb
      obtain⟨t,a,xs,rfl,k1⟩:=ra.Dy e1
      obtain⟨w,b,ys,rfl,k2⟩:=rb.Dy e2
      cases ru
      cases ru'
      obtain⟨its,rv,pp⟩:=I1.Dy (k1 ρ1.b H1 (dE.refl _ H1)).1
      obtain⟨jts,rw',pp'⟩:=I1.Dy (k2 ρ1.b H1 (dE.refl _ H1)).1
      have la:=pp.lt
      have lb:=pp'.lt
      refine zy pp pp' fun h₂ hz hTI hTO hi1 hi2 kk=>wpAny_pyIter_zip hz ?_
      have I2:Inv X pins σ H1 {s1 with heap:=h₂}:=I1.kept (t':=s1.toks) kk
      refine⟨s1.heap.objs.size+4,[s1.heap.objs.size+4,s1.heap.objs.size+2,s1.heap.objs.size+3,s1.heap.objs.size,s1.heap.objs.size+1],_,_,H1,rfl,I2,Cc (t:=t) (u:=w) (zipApart_new la lb),⟨hz,hTI,⟨_,_,hTO⟩,hi1,hi2⟩,fun c hc=>?_,q _ ρ1 H1 p1 w1 (G1.of fun B' H' pr=>?_)⟩
      ·have hle:s1.heap.objs.size≤c:=by
        simp only[List.mem_cons,List.not_mem_nil,or_false] at hc
        rcases hc with rfl | rfl | rfl | rfl | rfl <;> omega
       exact I1.rA hle (I1.hok.fresh hle)
      ·obtain⟨l1,rs1⟩:=k1 B' H' pr
       obtain⟨l2,rs2⟩:=k2 B' H' pr
       refine⟨fun i d hd=>?_,⟨xs,ys,l1,l2,?_⟩⟩
       ·unfold uG at hd
        rw[List.getElem?_map] at hd
        cases ez:(ls.zip ms)[i]? with
        | none=>rw [ez] at hd;cases hd
        | some pr'=>
          rw[ez] at hd
          have hd:D.tup [pr'.1,pr'.2]=d:=Option.some.inj hd
          obtain⟨ea,eb⟩:=List.getElem?_zip_eq_some.mp ez
          obtain⟨x,hx,rx⟩:=rs1.get ea
          obtain⟨y,hy,ry⟩:=rs2.get eb
          refine⟨⟨xs,ys,x,y,l1,l2,hx,hy⟩,fun v H'' yl hB'=>?_⟩
          obtain⟨p,x2,y2,hp,rfl,hx2,hy2,rfl⟩:=yl
          refine⟨bb hp,?_⟩
          subst hd
          have hx2:=hx2 xs l1
          have hy2:=hy2 ys l2
          rw[hx] at hx2;cases hx2
          rw[hy] at hy2;cases hy2
          refine Rep.tup.mpr ⟨p,_,rfl, .inl ⟨fun ha=>?_, .inl bc⟩,aH.cons (rx.same (bb hp)) (aH.cons (ry.same (bb hp)) aH.nil)⟩
          obtain⟨o,ho⟩:=hB' p ha
          rw[hp] at ho;cases ho
       ·rw[←rs1.length,←rs2.length]
        unfold uG
        rw[List.length_map,List.length_zip]
        omega
 ·cases w0 <;> cases w2 <;> cases h2
theorem HB{f g:FX}{δ:DE}{S:aN}{Q:List V3→aN→Prop}(h:W3 (f δ S) fun v S1=>W3 (g δ S1) fun w S2=>∃d e ds es,v= .d d∧w= .d e∧seqD? d=some ds∧seqD? e=some es∧Q ((uG ds es).map .d) S2):W3 (GL f g δ S) Q:=
 W3.bind (W3.bind (h.mono fun v S1 h2=>W3.bind (W3.bind (h2.mono fun w S2 ⟨d,e,ds,es,e1,e2',e3,e4,q⟩=>by
  subst e1 e2'
  exact W3.bind (W3.ok (W3.ok (W3.ok (by simp only[e3,e4];exact W3.ok q))))))))
noncomputable def jZ(S:aN):Prop:=∀o∈S,lN S.length o=true
theorem Flat.IE{S:aN}(h:Flat S):jZ S:=fun o ho=>h o ho _
theorem G9{N:List Str}{F:FZ}{vs:List V3}{S:aN}{QV:V3→aN→Prop}(h:W3 (kJ N F vs S) fun v S1=>(∀o∈S1.take S.length,lN S.length o=true)∧d9 S.length v=true∧∃d,res S1 v=some d∧QV (.d d) (S1.take S.length)):W3 (lU N F vs S) QV:=
 W3.bind (h.mono fun v S1 ⟨hl,hg,d,e,q⟩=>by
  rw[e]
  exact W3.wh (by rw[List.all_eq_true.mpr hl,hg];rfl) (W3.ok q))
theorem jW{N:List Str}{F:FZ}{vs:List V3}{S:aN}{QV:V3→aN→Prop}(hS:jZ S)(h:W3 (kJ N F vs S) fun v S1=>d9 S.length v=true∧(∃T,S1=S++T)∧∃d,res S1 v=some d∧QV (.d d) S):W3 (lU N F vs S) QV:=
 G9 (h.mono fun v S1 ⟨hg,⟨T,e1⟩,d,e,q⟩=>by
  subst e1
  rw[List.take_append_of_le_length (Nat.le_refl _),List.take_length]
  exact⟨hS,hg,d,e,q⟩)
end
end L3
end
section
set_option maxRecDepth 100000
set_option maxHeartbeats 4000000
namespace L2
open PySem PySem.Spec PyProof.Rows
section
variable {X:Cx}
noncomputable def ois?:List D→Option (List (Option Int))
 | []=>some []
 | .int i ::ds=>(ois? ds).map (some i ::·)
 | .cS ::ds=>(ois? ds).map (none ::·)
 | _ ::_=>none
noncomputable def LP:Option Int→V | some i=> .int i | none=> .cS
noncomputable def LH(d e:D):R Bool:=match d,e with
 | .cS, .lst ds=>(match ois? ds with | some ss=> .ok (ss.any (·.isNone)) | none=> .no)
 | _,_=> .no
noncomputable def Lg(d e:D):R D:=(LH d e).bind fun b=> .ok (.bl b)
end
end L2
end
section
set_option maxRecDepth 100000
set_option maxHeartbeats 4000000
namespace L2
open PySem PySem.Spec PyProof.Rows
section
variable {X:Cx}
noncomputable def kK(d:D)(ds:List D):R D:=match d,ds with
 | .lst es,[.int k]=>(match ints? es with | some ss=> .ok (.int (ss.count k:Nat)) | none=> .no)
 | _,_=> .no
theorem rX{x:V}:∀{xs:List V} {us:List Value},Vals xs us→xs.all jh=true→us.countP (zO x)=xs.countP fun y=>Co y x
 | _,_, .nil,_=>rfl
 | y ::xs,u ::us, .cons r t,f=>by
   rw[List.all_cons,Bool.and_eq_true] at f
   rw[List.countP_cons,List.countP_cons,wz r f.1,rX t f.2]
theorem qr(k:Int):∀ss:List Int,(ss.map V.int).countP (fun y=>Co y (.int k))=ss.count k
 | []=>rfl
 | y ::ss=>by
   rw[List.map_cons,List.countP_cons,qr k ss,List.count_cons]
   rfl
theorem Dg:He X "list.count" kK:=by
 intro pins s σ H B da d ds x xs v us I hb rx rxs ra rs hg
 unfold kK at hg
 split at hg
 ·rename_i es k
  split at hg
  ·rename_i ss e
   cases hg
   obtain⟨a,ys,rfl,l,rys⟩:=Rep.lst.mp ra
   cases rx
   obtain⟨y,rfl,r⟩:=rs.one
   rw[Rep.int.mp r] at rxs
   obtain⟨u,rfl,ru⟩:=vals1 rxs
   obtain⟨its,rv,pl,hz⟩:=I.list l.sq
   have hys:=fN rys e
   subst hys
   have fs:=og ss
   obtain⟨⟨cls,dd,data,sl⟩,ho,hc,n,hd⟩:=pl.isList
   simp only at hc hd
   subst hc hd
   have fx:jh (.int k)=true:=rfl
   have hcnt:(its.toArray.toList.countP (zO (.int k)):Nat)=ss.count k:=by
    rw[show its.toArray.toList=its by simp,rX rv fs,qr]
   refine call_meets PySem.F.slot_list_count ⟨_,ho,rfl⟩ PySem.F.entry_list_count (PySem.F.args_list_count_2 _ _) (PySem.SeqAt.list_countAt a its.toArray n dd sl u (zO (.int k))) ⟨ho,fun z hz=>nL ru fx rv fs z (by simpa using hz),?_⟩
   rw[hcnt]
   exact⟨.int _,H,I.tok _,⟨_,rfl⟩,aU.refl H,Rep.int.mpr rfl⟩
  ·cases hg
 ·cases hg
theorem rM{o e:Expr}{f:FD}{fs:ax→R (List D)}{apos cpos:Pos}(ho:QD X o f)(ha:Cu X [e] fs)
 (hbase:attributeBase o "count" X.env (eval o X.env)=eval o X.env:=by rfl)
 (hfew:((backTo cpos (starEach [e] X.env)).all (fun x=>!x.1) && (backToKw cpos (keywordEach [] X.env)).all (fun x=>x.1.isSome)
   && decide (([e]:List Expr).length+([]:List Keyword).length+(if([]:List Keyword).isEmpty then 0 else 1) < 30))=true:=by rfl)
 (hline:(apos.endLine==cpos.line)=true:=by rfl) (hs:starEach [e] X.env=(false,eval e X.env) ::starEach [] X.env:=by rfl) :
 QD X (.Call (.Attribute o "count" apos) [e] [] cpos) (sf "list" kK f fs):=⟨Er F.plainAttrs_list F.slot_list_count F.type_list_count Dg ho.1 ha.1 (.inr (.inr rfl)) hbase hfew hline hs⟩
end
end L2
end
section
set_option maxRecDepth 100000
set_option maxHeartbeats 4000000
namespace NT
noncomputable def mx(f:Nat→Nat)(w:List Nat):Nat:=(w.map f).foldl max 0
structure BA (f:Nat→Nat) (M:Nat) (bs:List Int):Prop where
 a:∀(z:Nat) (v:Int),bs[z]? =some v→v= -1∨(0≤v∧v+f z≤M)
noncomputable def BB(f:Nat→Nat)(M:Nat)(bs:List Int)(n:Nat):Prop:=∃(z:Nat) (v:Int),z < n∧bs[z]? =some v∧0≤v∧(M:Int)≤v+f z
noncomputable def Up(bs bs':List Int):Prop:=bs'.length=bs.length∧∀(z:Nat) (v:Int),bs[z]? =some v→∃v',bs'[z]? =some v'∧v≤v'
end NT
namespace NT
open PySem PySem.Spec PyProof.Rows L2 L3
structure Gt where
 k:Str
 w:List Nat
 s:Bool
noncomputable def nN(z:Nat):D:= .int z
noncomputable def wN(w:List Nat):D:= .tup (w.map nN)
noncomputable def gN(g:Gt):D:= .tup [.str g.k,wN g.w, .bl g.s]
noncomputable def iN(x:Str × Nat):D:= .tup [.str x.1, .int x.2]
noncomputable def oN(x:Str × List Nat):D:= .tup [.str x.1,wN x.2]
structure Net where
 i:List (Str × Nat)
 g:List Gt
 o:List (Str × List Nat)
noncomputable def Net.d(n:Net):D:= .tup [.lst (n.i.map iN), .lst (n.g.map gN), .lst (n.o.map oN)]
noncomputable def Net.first(n:Net):Nat:=(n.i.map (·.2)).sum
structure Kd (n:Nat) (w:List Nat):Prop where
 ne:w≠[]
 le:w.length≤3
 lt:∀z∈w,z < n
structure Net.Ok (n:Net):Prop where
 i1:1≤n.i.length
 i6:n.i.length≤6
 iw:∀x∈n.i,1≤x.2∧x.2≤3
 is:∀x∈n.i,gy 0 (.str x.1)
 g60:n.g.length≤60
 gw:∀(p:Nat) (g:Gt),n.g[p]? =some g→Kd (n.first+p) g.w
 gs:∀g∈n.g,gy 0 (.str g.k)
 o1:1≤n.o.length
 o6:n.o.length≤6
 ow:∀x∈n.o,Kd (n.first+n.g.length) x.2
 os:∀x∈n.o,gy 0 (.str x.1)
theorem eq_self{n:Nat}{ds:List D}(h:gy n (.tup ds))(hn:n≤64):jC (.tup ds) (.tup ds)= .ok (.bl true):=by unfold jC;rw [h.eqT hn];rfl
inductive Sm:Nat→D→Prop where
 | int (n:Nat) (i:Int):Sm n (.int i)
 | bl (n:Nat) (b:Bool):Sm n (.bl b)
 | str (n:Nat) (s:Str):Sm n (.str s)
 | lst {n:Nat} {ds:List D} (h:∀d∈ds,Sm n d) (hl:ds.length≤1000000):Sm (n+1) (.lst ds)
 | tup {n:Nat} {ds:List D} (h:∀d∈ds,Sm n d) (hl:ds.length≤1000000):Sm (n+1) (.tup ds)
theorem ia{F G:FS}{δ:ax}{d:D}(h:F δ= .ok (.rt d)):el F G δ= .ok (.rt d):=by unfold el;rw [h];rfl
theorem n4{m i:Nat}{v:V3}(h:((cH 0 m).map V3.d)[i]? =some v):i < m∧v= .d (.int i):=by
 rw[List.getElem?_map,cH,List.getElem?_map] at h
 cases q:(List.range m)[i]? with
 | none=>rw [q] at h;cases h
 | some j=>
   rw[q] at h;cases h
   obtain⟨q1,q2⟩:=List.getElem?_eq_some_iff.mp q
   rw[List.getElem_range] at q2
   rw[List.length_range] at q1
   subst q2
   exact⟨q1,by simp⟩
theorem i4{α:Type}{l:List α}{f:α→D}{i:Nat}{v:V3}(h:((l.map f).map V3.d)[i]? =some v):∃x,l[i]? =some x∧v= .d (f x):=by
 rw[List.getElem?_map,List.getElem?_map] at h
 cases q:l[i]? with
 | none=>rw [q] at h;cases h
 | some x=>rw [q] at h;cases h;exact⟨x,rfl,rfl⟩
theorem tK{α:Type}{l:List α}{f:α→D}{i:Nat}{v:D}(h:(l.map f)[i]? =some v):∃x,l[i]? =some x∧v=f x:=by
 rw[List.getElem?_map] at h
 cases q:l[i]? with
 | none=>rw [q] at h;cases h
 | some x=>rw [q] at h;cases h;exact⟨x,rfl,rfl⟩
theorem fI{α:Type}{t:FT}{c:ax→R Bool}{f:FD}{δ:ax}(a b:α→D):∀{xs:List α},(∀x∈xs,∃δ1,t (a x) δ= .ok δ1∧c δ1= .ok true∧f δ1= .ok (b x))→nq t c f δ (xs.map a)= .ok (xs.map b)
 | [],_=>rfl
 | x ::xs,h=>by
   obtain⟨δ1,h1,h2,h3⟩:=h x List.mem_cons_self
   have ih:=fI (t:=t) (c:=c) (f:=f) (δ:=δ) a b (xs:=xs) fun y hy=>h y (List.mem_cons_of_mem _ hy)
   rw[List.map_cons]
   unfold nq
   rw[h1,R.aM,h2,R.aM,if_pos rfl,h3,R.aM,ih]
   rfl
theorem mS{α:Type}{t:FT}{c:ax→R Bool}{f:FD}{δ:ax}(p:α→Bool)(a b:α→D):∀{xs:List α},(∀x∈xs,∃δ1,t (a x) δ= .ok δ1∧c δ1= .ok (p x)∧(p x=true→f δ1= .ok (b x)))→nq t c f δ (xs.map a)= .ok ((xs.filter p).map b)
 | [],_=>rfl
 | x ::xs,h=>by
   obtain⟨δ1,h1,h2,h3⟩:=h x List.mem_cons_self
   have ih:=mS (t:=t) (c:=c) (f:=f) (δ:=δ) p a b (xs:=xs) fun y hy=>h y (List.mem_cons_of_mem _ hy)
   rw[List.map_cons]
   unfold nq
   rw[h1,R.aM,h2,R.aM]
   cases e:p x with
   | true=>rw [if_pos rfl,h3 e,R.aM,ih,List.filter_cons,if_pos e];rfl
   | false=>rw [if_neg (by decide),ih,List.filter_cons,if_neg (by rw[e];decide)]
theorem DG{n z:Nat}(h:z < n):qa n (z:Int)=some z:=by
 unfold qa
 rw[if_pos (by omega),if_pos (by omega)]
 simp
theorem B9{α:Type}{xs:List α}{z:Nat}{x:α}(h:xs[z]? =some x):o_ xs (z:Int)=some x:=by
 have hl:=(List.getElem?_eq_some_iff.mp h).1
 unfold o_
 rw[DG hl]
 exact h
theorem kj{ds:List D}{z:Nat}{x:D}(h:ds[z]? =some x):cD (.lst ds) (.int z)= .ok x:=jB (B9 h)
end NT
end
section
set_option maxRecDepth 100000
set_option maxHeartbeats 4000000
namespace MT
open PySem PySem.Spec PyProof.Rows L2 L3
noncomputable abbrev M:=Nat→Bool
theorem HM{N:List Str}{F:FZ}{vs:List V3}{δ:DE}{S:aN}{QV:V3→aN→Prop}(e:bG N vs=δ)(h:W3 (F δ S) fun o S1=>∃δ',o= .nx δ'∧QV (.d .cS) S1):W3 (kJ N F vs S) QV:=by
 subst e
 exact W3.bind (h.mono fun _ _ ⟨_,e,q⟩=>by subst e;exact W3.ok q)
noncomputable def iY:Nat→M→Nat
 | 0,_=>0
 | N+1,f=>(if f 0 then 1 else 0)+2*iY N (fun i=>f (i+1))
theorem gO:∀(N:Nat) (f:M) (i:Nat),(iY N f).testBit i=(decide (i < N) && f i)
 | 0,f,i=>by unfold iY;simp
 | N+1,f,0=>by
   unfold iY
   rw[Nat.testBit_zero]
   cases f 0 <;> simp <;> omega
 | N+1,f,i+1=>by
   unfold iY
   rw[Nat.testBit_succ]
   have:((if f 0=true then 1 else 0)+2*iY N fun i=>f (i+1)) / 2=iY N fun i=>f (i+1):=by split <;> omega
   rw[this,gO N _ i]
   simp
theorem lL:∀{N:Nat} {f g:M},(∀i,i < N→f i=g i)→iY N f=iY N g
 | 0,_,_,_=>rfl
 | N+1,f,g,h=>by
   unfold iY
   rw[h 0 (by omega),lL (N:=N) fun i hi=>h (i+1) (by omega)]
theorem xD(N:Nat)(f g:M):iY N f &&& iY N g=iY N fun i=>f i && g i:=by
 refine Nat.eq_of_testBit_eq fun i=>?_
 rw[Nat.testBit_and,gO,gO,gO]
 cases decide (i < N) <;> simp
theorem Bm(N:Nat)(f g:M):iY N f ||| iY N g=iY N fun i=>f i || g i:=by
 refine Nat.eq_of_testBit_eq fun i=>?_
 rw[Nat.testBit_or,gO,gO,gO]
 cases decide (i < N) <;> simp
theorem yG:∀(N:Nat) (f g:M),((iY N fun i=>f i || g i:Nat):Int) - (iY N fun i=>f i && g i:Nat)=(iY N fun i=>f i !=g i:Nat)
 | 0,f,g=>rfl
 | N+1,f,g=>by
   have ih:=yG N (fun i=>f (i+1)) (fun i=>g (i+1))
   have e:∀h:M,iY (N+1) h=(if h 0 then 1 else 0)+2*iY N (fun i=>h (i+1)):=fun _=>rfl
   rw[e,e,e]
   generalize iY N (fun i=>f (i+1) || g (i+1))=a at ih ⊢
   generalize iY N (fun i=>f (i+1) && g (i+1))=b at ih ⊢
   generalize iY N (fun i=>f (i+1) !=g (i+1))=c at ih ⊢
   show(((if(f 0 || g 0) then 1 else 0)+2*a:Nat):Int) - ((if(f 0 && g 0) then 1 else 0)+2*b:Nat)=((if(f 0 !=g 0) then 1 else 0)+2*c:Nat)
   cases f 0 <;> cases g 0 <;> simp <;> omega
theorem qU(x y:Nat):Builtin.bitAnd (x:Int) (y:Int)=((x &&& y:Nat):Int):=by
 unfold Builtin.bitAnd
 rw[decide_eq_true (by omega:(0:Int)≤x),decide_eq_true (by omega:(0:Int)≤y)]
 simp
theorem xB(x y:Nat):Builtin.bitOr (x:Int) (y:Int)=((x ||| y:Nat):Int):=by
 unfold Builtin.bitOr Builtin.bitAnd Builtin.bitNot
 rw[decide_eq_false (by omega:¬(0:Int)≤ -(x:Int) - 1),decide_eq_false (by omega:¬(0:Int)≤ -(y:Int) - 1)]
 show -(-(((-(-(x:Int) - 1) - 1).toNat ||| (-(-(y:Int) - 1) - 1).toNat:Nat):Int) - 1) - 1=_
 rw[show(-(-(x:Int) - 1) - 1).toNat=x by omega,show(-(-(y:Int) - 1) - 1).toNat=y by omega]
 omega
noncomputable def mI(N:Nat)(f:M):D:= .int (iY N f:Nat)
theorem vF{N:Nat}{f g:M}(h:∀i,i < N→f i=g i):mI N f=mI N g:=by unfold mI;rw [lL h]
theorem pU(N:Nat)(f g:M):zQ (mI N f) (mI N g)= .ok (mI N fun i=>f i && g i):=by
 show R.ok (D.int (Builtin.bitAnd (iY N f:Int) (iY N g:Int)))=_
 rw[qU,xD];rfl
theorem vP(N:Nat)(f g:M):Cr (mI N f) (mI N g)= .ok (mI N fun i=>f i || g i):=by
 show R.ok (D.int (Builtin.bitOr (iY N f:Int) (iY N g:Int)))=_
 rw[xB,Bm];rfl
theorem vH(N:Nat)(f g:M):zw (mI N f) (mI N g)= .ok (mI N fun i=>f i !=g i):=by
 show R.ok (D.int (Builtin.bitOr (iY N f:Int) (iY N g:Int) - Builtin.bitAnd (iY N f:Int) (iY N g:Int)))=_
 rw[xB,qU,Bm,xD,yG];rfl
noncomputable def one:M:=fun _=>true
theorem uA(N:Nat)(f:M):zw (mI N one) (mI N f)= .ok (mI N fun i=>!f i):=by
 rw[vH]
 have:(fun i=>one i !=f i)=fun i=>!f i:=by funext i;unfold one;simp
 rw[this]
theorem z8(N:Nat)(f:M)(c:Bool):(if c then zw (mI N one) (mI N f) else .ok (mI N f))= .ok (mI N fun i=>f i !=c):=by
 cases c with
 | true=>
   rw[if_pos rfl,uA]
   have:(fun i=>!f i)=fun i=>f i !=true:=by funext i;cases f i <;> rfl
   rw[this]
 | false=>
   rw[if_neg (by decide)]
   have:f=fun i=>f i !=false:=by funext i;cases f i <;> rfl
   rw[←this]
theorem vh{N:Nat}{f:M}:iY N f=0↔∀i,i < N→f i=false:=by
 constructor
 ·intro h i hi
  have:=gO N f i
  rw[h,Nat.zero_testBit,decide_eq_true hi,Bool.true_and] at this
  exact this.symm
 ·intro h
  refine Nat.eq_of_testBit_eq fun i=>?_
  rw[gO,Nat.zero_testBit]
  by_cases q:i < N
  ·rw[h i q];simp
  ·rw[decide_eq_false q];rfl
theorem HV(N:Nat)(f:M)(n:Nat):(oI (mI N f) (.int n)).bind (fun d=>zQ d (.int 1))= .ok (.int (if decide (n < N) && f n then 1 else 0)):=by
 have h1:oI (mI N f) (.int n)= .ok (.int ((iY N f / 2 ^ n:Nat):Int)):=by
  show R.cc (decide ((0:Int)≤n)) (.ok (D.int ((iY N f:Int) / 2 ^ ((n:Int)).toNat)))=_
  rw[bU _ (by omega),Int.toNat_natCast]
  congr 2
 rw[h1,R.aM]
 show R.ok (D.int (Builtin.bitAnd ((iY N f / 2 ^ n:Nat):Int) ((1:Nat):Int)))=_
 rw[qU,Nat.and_one_is_mod,←gO]
 congr 2
 unfold Nat.testBit
 rw[Nat.shiftRight_eq_div_pow,Nat.one_and_eq_mod_two]
 have:iY N f / 2 ^ n % 2=0∨iY N f / 2 ^ n % 2=1:=by omega
 rcases this with q | q <;> rw[q] <;> rfl
noncomputable def bI(b:Bool):D:= .int (if b then 1 else 0)
noncomputable def Cn:List Bool→Nat
 | []=>0
 | b ::bs=>(if b then 1 else 0)+2*Cn bs
theorem BN:∀bs:List Bool,Cn bs=iY bs.length fun i=>bs.getD i false
 | []=>rfl
 | b ::bs=>by
   unfold Cn
   rw[BN bs]
   rfl
noncomputable def nI(n:Nat):D:= .int (n:Int)
noncomputable def kS:Nat→Str | 0=>Str.ofString "not" | 1=>Str.ofString "and" | 2=>Str.ofString "or" | 3=>Str.ofString "xor" | _=>Str.ofString "vote"
noncomputable def ar:Nat→Nat | 0=>1 | 4=>3 | _=>2
theorem BP(k:Nat):ar k≤3:=by unfold ar;split <;> omega
noncomputable def gv:Nat→List Bool→Bool
 | 0,[a]=>!a
 | 1,[a,b]=>a && b
 | 2,[a,b]=>a || b
 | 3,[a,b]=>a !=b
 | 4,[a,b,c]=>(a && b) || (a && c) || (b && c)
 | _,_=>false
noncomputable def iI(ws:List M)(n:Nat):M:=ws.getD n fun _=>false
theorem pN{ws:List M}{b:M}{n:Nat}(h:n < ws.length):iI (ws++[b]) n=iI ws n:=by
 unfold iI
 rw[List.getD_eq_getElem?_getD,List.getElem?_append_left h,List.getD_eq_getElem?_getD]
theorem qE(ws:List M)(b:M):iI (ws++[b]) ws.length=b:=by
 unfold iI
 rw[List.getD_eq_getElem?_getD,List.getElem?_append_right (Nat.le_refl _),Nat.sub_self]
 rfl
noncomputable abbrev Gt:=Nat × List Nat × Bool
noncomputable def gZ(g:Gt):D:= .tup [.str (kS g.1), .tup (g.2.1.map nI), .bl g.2.2]
noncomputable def mN(n:Nat)(g:Gt):Prop:=g.1≤4∧g.2.1.length=ar g.1∧∀w∈g.2.1,w < n
noncomputable def inD(x:Str × Nat):D:= .tup [.str x.1,nI x.2]
noncomputable def y_(x:Str × List Nat):D:= .tup [.str x.1, .tup (x.2.map nI)]
noncomputable def cb(ins:List (Str × Nat))(gs:List Gt)(os:List (Str × List Nat)):D:= .tup [.lst (ins.map inD), .lst (gs.map gZ), .lst (os.map y_)]
noncomputable def i5(ins:List (Str × Nat)):Nat:=(ins.map (·.2)).sum
noncomputable def gF(g:Gt)(ws:List M):M:=fun p=>gv g.1 (g.2.1.map fun n=>iI ws n p)
noncomputable def gh(bad:List Int)(b:M):Nat→List M→List M
 | 0,ws=>ws
 | n+1,ws=>gh bad b n ws++[fun p=>b p !=bad.contains ((gh bad b n ws).length:Int)]
theorem gC(bad:List Int)(b:M):∀n ws,(gh bad b n ws).length=ws.length+n
 | 0,ws=>rfl
 | n+1,ws=>by unfold gh;rw [List.length_append,gC bad b n ws];rfl
noncomputable def c9(ins:List (Str × Nat))(bits:List M)(bad:List Int):Nat→List M
 | 0=>[]
 | i+1=>match ins[i]?,bits[i]? with | some x,some b=>gh bad b x.2 (c9 ins bits bad i) | _,_=>c9 ins bits bad i
theorem ng{ins:List (Str × Nat)}{bits:List M}{bad:List Int}(hb:bits.length=ins.length):∀i,i≤ins.length→(c9 ins bits bad i).length=i5 (ins.take i)
 | 0,_=>rfl
 | i+1,hi=>by
   have h1:ins[i]? =some ins[i]:=List.getElem?_eq_getElem (by omega)
   have h2:bits[i]? =some bits[i]:=List.getElem?_eq_getElem (by omega)
   unfold c9
   rw[h1,h2]
   show(gh bad bits[i] ins[i].2 (c9 ins bits bad i)).length=_
   rw[gC,ng hb i (by omega),List.take_add_one,h1]
   unfold i5
   simp only[Option.toList_some,List.map_append,List.sum_append,List.map_cons,List.map_nil,List.sum_cons,List.sum_nil]
   omega
noncomputable def lJ(gs:List Gt)(turned:List Int)(w0:List M):Nat→List M
 | 0=>w0
 | i+1=>match gs[i]? with | some g=>lJ gs turned w0 i++[fun p=>gF g (lJ gs turned w0 i) p !=turned.contains (i:Int)] | none=>lJ gs turned w0 i
theorem nG{gs:List Gt}{turned:List Int}{w0:List M}:∀i,i≤gs.length→(lJ gs turned w0 i).length=w0.length+i
 | 0,_=>rfl
 | i+1,hi=>by
   have h1:gs[i]? =some gs[i]:=List.getElem?_eq_getElem (by omega)
   unfold lJ
   rw[h1]
   show(lJ gs turned w0 i++[_]).length=_
   rw[List.length_append,nG i (by omega)]
   rfl
structure i9 (ins:List (Str × Nat)) (gs:List Gt) (os:List (Str × List Nat)):Prop where
 hi:ins.length < 100
 hw:∀x∈ins,x.2 < 100
 hg:gs.length < 1000
 g:∀(i:Nat) (x:Gt),gs[i]? =some x→mN (i5 ins+i) x
 ho:os.length < 1000
 o:∀x∈os,x.2.length < 1000∧∀w∈x.2,w < i5 ins+gs.length
noncomputable def qG(ins:List (Str × Nat))(gs:List Gt)(bits:List M)(turned bad:List Int):List M:=lJ gs turned (c9 ins bits bad ins.length) gs.length
theorem BD:∀{l:List (Str × Nat)},(∀x∈l,x.2 < 100)→i5 l≤100*l.length
 | [],_=>by simp [i5]
 | x ::l,h=>by
   have ih:=BD (l:=l) fun y hy=>h y (List.mem_cons_of_mem _ hy)
   have:=h x List.mem_cons_self
   unfold i5 at ih ⊢
   rw[List.map_cons,List.sum_cons,List.length_cons]
   omega
theorem uw{ins:List (Str × Nat)}{gs:List Gt}{bits:List M}{turned bad:List Int}(hb:bits.length=ins.length):(qG ins gs bits turned bad).length=i5 ins+gs.length:=by unfold qG;rw [nG _ (Nat.le_refl _),ng hb _ (Nat.le_refl _),List.take_length]
noncomputable def tell(ws:List M)(x:Str × List Nat):List M:=x.2.map (iI ws)
noncomputable def GP:List Bool→Bool × Bool
 | [a]=>(!a,a)
 | [a,b]=>(!(a || b),a && b)
 | [a,b,c]=>let v:=(a && b) || (a && c) || (b && c);(!v,v)
 | _=>(false,false)
noncomputable def brk(safe:Bool)(x y:Bool × Bool):Bool:=if safe then(x.1 && y.2) || (x.2 && y.1) else(x.1 !=y.1) || (x.2 !=y.2)
theorem xN(i:Int)(ps:List Int):qM (.int i) (.tup (ps.map .int))= .ok (.bl (ps.contains i)):=by
 show((match ints? (ps.map D.int) with | some ss=>R.ok (ss.contains i) | none=> .no)).bind (fun b=>R.ok (D.bl b))=_
 rw[L2.ints_map];rfl
theorem tp{ds:List D}{i:Nat}{v:V3}(h:((di ds).map V3.d)[i]? =some v):∃d,ds[i]? =some d∧v= .d (.tup [.int i,d]):=by
 rw[List.getElem?_map,di,List.getElem?_map,List.getElem?_zipIdx] at h
 cases q:ds[i]? with
 | none=>rw [q] at h;cases h
 | some d=>
   rw[q] at h
   simp at h
   exact⟨d,rfl,h.symm⟩
theorem sR{c:ax→R Bool}{f g:FD}{δ:ax}{b:Bool}{r:R D}(h:c δ= .ok b)(h2:(if b then f δ else g δ)=r):wW c f g δ=r:=by unfold wW;rw [h,R.aM];exact h2
theorem d6(S:aN)(x y:SO):(S++[x]).set S.length y=S++[y]:=by
 rw[List.set_append_right _ _ (Nat.le_refl _),Nat.sub_self];rfl
theorem bt(S:aN)(x:SO):(S++[x])[S.length]? =some x:=by rw[List.getElem?_append_right (Nat.le_refl _),Nat.sub_self];rfl
theorem Gv{N:Nat}{ws:List M}{n:Nat}(h:n < ws.length):cD (.lst (ws.map (mI N))) (nI n)= .ok (mI N (iI ws n)):=by
 refine NT.kj ?_
 rw[List.getElem?_map,List.getElem?_eq_getElem h]
 unfold iI
 rw[List.getD_eq_getElem?_getD,List.getElem?_eq_getElem h]
 rfl
end MT
namespace MT
open PySem PySem.Spec PyProof.Rows L2 L3
theorem mz{α:Type}{t:FG}{body:FZ}{S:aN}(g:α→V3)(f:α→Option V3)(E:DE→Prop):∀{xs:List α} {δ:DE},E δ→
 (∀x∈xs,∀δ,E δ→∃δ1,t (g x) δ=some δ1∧W3 (body δ1 S) fun o S1=>S1=S∧(match f x with | some v=>o= .rt v | none=>∃δ2,o= .nx δ2∧E δ2))→
 W3 (kF t body (xs.map g) δ S) fun o S1=>S1=S∧(match xs.findSome? f with | some v=>o= .rt v | none=>∃δ2,o= .nx δ2∧E δ2)
 | [],δ,h0,_=>W3.ok ⟨rfl,δ,rfl,h0⟩
 | x ::xs,δ,h0,hs=>by
   obtain⟨δ1,e1,o,S1,e2,rfl,h2⟩:=hs x List.mem_cons_self δ h0
   rw[List.map_cons]
   unfold kF
   rw[e1]
   refine W3.bind ⟨_,_,e2,?_⟩
   rw[List.findSome?_cons]
   cases hf:f x with
   | some v=>rw [hf] at h2;subst h2;exact W3.ok ⟨rfl,rfl⟩
   | none=>
     rw[hf] at h2
     obtain⟨δ2,rfl,h2⟩:=h2
     exact mz g f E h2 fun y hy=>hs y (List.mem_cons_of_mem _ hy)
theorem qR{α:Type}{t:FT}{body:FS}(g:α→D)(f:α→Option D)(E:ax→Prop):∀{xs:List α} {δ:ax},E δ→
 (∀x∈xs,∀δ,E δ→∃o,((t (g x) δ).bind body)= .ok o∧(match f x with | some v=>o= .rt v | none=>∃δ2,o= .nx δ2∧E δ2))→
 ∃o,l6 t body (xs.map g) δ= .ok o∧(match xs.findSome? f with | some v=>o= .rt v | none=>∃δ2,o= .nx δ2∧E δ2)
 | [],δ,h0,_=>⟨_,rfl,δ,rfl,h0⟩
 | x ::xs,δ,h0,hs=>by
   obtain⟨o,e2,h2⟩:=hs x List.mem_cons_self δ h0
   rw[List.map_cons]
   unfold l6
   cases e3:t (g x) δ with
   | no=>rw [e3] at e2;cases e2
   | ex _=>rw [e3] at e2;cases e2
   | ok δ1=>
     rw[e3,R.aM] at e2
     rw[R.aM,e2,R.aM,List.findSome?_cons]
     cases hf:f x with
     | some v=>rw [hf] at h2;subst h2;exact⟨_,rfl,rfl⟩
     | none=>
       rw[hf] at h2
       obtain⟨δ2,rfl,h2⟩:=h2
       exact qR g f E h2 fun y hy=>hs y (List.mem_cons_of_mem _ hy)
noncomputable def lM:List Nat→Nat→List (List Nat)
 | _,0=>[[]]
 | ps,s+1=>(List.range ps.length).flatMap fun a=>(lM (ps.drop (a+1)) s).map (ps.getD a 0 ::·)
theorem BZ:∀{s:Nat} {ps T:List Nat},T∈lM ps s→T.length=s∧∀x∈T,x∈ps
 | 0,ps,T,h=>by unfold lM at h;rw [List.mem_singleton.mp h];simp
 | s+1,ps,T,h=>by
   unfold lM at h
   obtain⟨a,ha,h⟩:=List.mem_flatMap.mp h
   obtain⟨R,hR,rfl⟩:=List.mem_map.mp h
   rw[List.mem_range] at ha
   obtain⟨h1,h2⟩:=BZ hR
   refine⟨by simp [h1],fun x hx=>?_⟩
   rcases List.mem_cons.mp hx with rfl | hx
   ·rw[List.getD_eq_getElem?_getD,List.getElem?_eq_getElem ha];exact List.getElem_mem ha
   ·exact List.mem_of_mem_drop (h2 x hx)
theorem tP:∀{l:List Nat} {m:Nat},(∀x∈l,x≤m)→l.sum≤l.length*m
 | [],_,_=>by simp
 | x ::l,m,h=>by
   have:=tP (l:=l) (m:=m) fun y hy=>h y (List.mem_cons_of_mem _ hy)
   have h0:=h x List.mem_cons_self
   rw[List.sum_cons,List.length_cons,Nat.add_mul]
   omega
theorem pQ:∀{s:Nat} {ps:List Nat} {n:Nat},ps.length≤n→(lM ps s).length≤n ^ s
 | 0,ps,n,_=>by unfold lM;simp
 | s+1,ps,n,h=>by
   unfold lM
   rw[List.length_flatMap,Nat.pow_succ]
   refine Nat.le_trans (tP (m:=n ^ s) fun x hx=>?_) ?_
   ·obtain⟨a,_,rfl⟩:=List.mem_map.mp hx
    rw[List.length_map]
    exact pQ (by rw[List.length_drop];omega)
   ·rw[List.length_map,List.length_range,Nat.mul_comm]
    exact Nat.mul_le_mul_left _ h
theorem Gu{F G:FZ}{δ:DE}{S:aN}{QO:Ou→aN→Prop}(h:W3 (F δ S) fun o S1=>match o with | .nx δ1=>W3 (G δ1 S1) QO | .rt v=>QO (.rt v) S1):W3 (bu F G δ S) QO:=
 W3.bind (h.mono fun o S1 q=>by cases o with | nx δ1=>exact q | rt v=>exact W3.ok q)
end MT
end
section
set_option Elab.async false
set_option linter.all false
set_option maxRecDepth 100000
set_option maxHeartbeats 4000000
namespace K19
open PySem PySem.Spec PyProof.Rows L2 L3
noncomputable def top(i:Nat):Stmt:=PySem.Challenge.pw_bearfaults_k19_whole_one_gate_and_matter.main.body.getD i (.Pass ⟨0,0,0,0⟩)
structure Tp (K:PySem.W.Frag) (mg:Str→Option Value) (cl:Nat→Addr):Prop where
 z_enumerate:mg (Str.ofString "enumerate")=none
 z_range:mg (Str.ofString "range")=none
 z_len:mg (Str.ofString "len")=none
 z_tuple:mg (Str.ofString "tuple")=none
 z_reversed:mg (Str.ofString "reversed")=none
 z_zip:mg (Str.ofString "zip")=none
 z_abs:mg (Str.ofString "abs")=none
 z_min:mg (Str.ofString "min")=none
 z_max:mg (Str.ofString "max")=none
 C_Bench:ud K (cl 0)
 N_Bench_net:c6 K (cl 0) (Str.ofString "net")
 N_Bench_many_inputs:c6 K (cl 0) (Str.ofString "many_inputs")
 N_Bench_full:c6 K (cl 0) (Str.ofString "full")
 N_Bench_in_masks:c6 K (cl 0) (Str.ofString "in_masks")
 M_Bench:mg (Str.ofString "Bench")=some (.ref (cl 0))
 C_Trial:ud K (cl 1)
 N_Trial_bench:c6 K (cl 1) (Str.ofString "bench")
 N_Trial_plain:c6 K (cl 1) (Str.ofString "plain")
 N_Trial_unsure:c6 K (cl 1) (Str.ofString "unsure")
 M_Trial:mg (Str.ofString "Trial")=some (.ref (cl 1))
noncomputable abbrev eP:Stmt:=top 1
noncomputable abbrev sk:List Str:=[(Str.ofString "masks")]
noncomputable def xc:{b:List Stmt // ao eP=b}:=by
 have e:ao eP=ao eP:=rfl
 conv at e=>rhs;whnf
 exact⟨_,e⟩
noncomputable def pV:{b:Scope // ag eP=b}:=by
 have e:ag eP=ag eP:=rfl
 conv at e=>rhs;whnf
 exact⟨_,e⟩
theorem zd:aV sk [(Str.ofString "masks")] pV.1:=⟨rfl,rfl,rfl,by decide+kernel,rfl,by decide+kernel,by decide+kernel⟩
noncomputable def r_:FS:=(er (e2 Cr (e2 Cr (e2 zQ (e2 cD (ai 0) (eC (.int 0))) (e2 cD (ai 0) (eC (.int 1)))) (e2 zQ (e2 cD (ai 0) (eC (.int 0))) (e2 cD (ai 0) (eC (.int 2))))) (e2 zQ (e2 cD (ai 0) (eC (.int 1))) (e2 cD (ai 0) (eC (.int 2))))))
noncomputable def fR:List D→R D:=nP sk r_
theorem zH{P:Program}{w:World}{K:PySem.W.Frag}{mg:Str→Option Value}{base:Heap}{cl:Nat→Addr}(T:Tp K mg cl)(h:Def K mg (Str.ofString "vote_of") eP):Callee P w K mg base 1 (Str.ofString "vote_of") 1 fR:=by
 obtain⟨f,fd,F,hm⟩:=h
 exact⟨f,fd,_,cZ (k:=0) xc.2 pV.2 F zd (fun cdv A outer s H E hr=>(bx (bZ (aO vy (aO vy (aO uL (aJ (aa 0) ah (fun _ _=>rfl)) (aJ (aa 0) ah (fun _ _=>rfl))) (aO uL (aJ (aa 0) ah (fun _ _=>rfl)) (aJ (aa 0) ah (fun _ _=>rfl)))) (aO uL (aJ (aa 0) ah (fun _ _=>rfl)) (aJ (aa 0) ah (fun _ _=>rfl))))))),hm,F.kp,F.binds fun _ _ _ _ _ _ us hl=>match us,hl with | [_],_=>rfl⟩
noncomputable abbrev dh:Stmt:=top 2
noncomputable abbrev lj:List Str:=[(Str.ofString "kind"),(Str.ofString "masks"),(Str.ofString "full")]
noncomputable def t6:{b:List Stmt // ao dh=b}:=by
 have e:ao dh=ao dh:=rfl
 conv at e=>rhs;whnf
 exact⟨_,e⟩
noncomputable def nk:{b:Scope // ag dh=b}:=by
 have e:ag dh=ag dh:=rfl
 conv at e=>rhs;whnf
 exact⟨_,e⟩
theorem vI:aV lj [(Str.ofString "kind"),(Str.ofString "masks"),(Str.ofString "full")] nk.1:=⟨rfl,rfl,rfl,by decide+kernel,rfl,by decide+kernel,by decide+kernel⟩
noncomputable def oM:FS:=(el (pj (b2 jC (ai 0) (eC (.str (Str.ofString "not")))) (er (e2 zw (ai 2) (e2 cD (ai 1) (eC (.int 0))))) jz) (el (pj (b2 jC (ai 0) (eC (.str (Str.ofString "and")))) (er (e2 zQ (e2 cD (ai 1) (eC (.int 0))) (e2 cD (ai 1) (eC (.int 1))))) jz) (el (pj (b2 jC (ai 0) (eC (.str (Str.ofString "or")))) (er (e2 Cr (e2 cD (ai 1) (eC (.int 0))) (e2 cD (ai 1) (eC (.int 1))))) jz) (el (pj (b2 jC (ai 0) (eC (.str (Str.ofString "xor")))) (er (e2 zw (e2 cD (ai 1) (eC (.int 0))) (e2 cD (ai 1) (eC (.int 1))))) jz) (er (aP fR (au (ai 1) aL)))))))
noncomputable def fO:List D→R D:=nP lj oM
theorem uu{P:Program}{w:World}{K:PySem.W.Frag}{mg:Str→Option Value}{base:Heap}{cl:Nat→Addr}(T:Tp K mg cl)(h:Def K mg (Str.ofString "gate_mask") dh)(C_vote_of:Callee P w K mg base 1 (Str.ofString "vote_of") 1 fR):Callee P w K mg base 2 (Str.ofString "gate_mask") 3 fO:=by
 obtain⟨f,fd,F,hm⟩:=h
 exact⟨f,fd,_,cZ (k:=1) t6.2 nk.2 F vI (fun cdv A outer s H E hr=>(bQ (gP (bJ (jR hr.units) (aa 0) bA (ck _)) (bx (bZ (aO tR (aa 2) (aJ (aa 1) ah (fun _ _=>rfl))))) fu) (bQ (gP (bJ (jR hr.units) (aa 0) bA (ck _)) (bx (bZ (aO uL (aJ (aa 1) ah (fun _ _=>rfl)) (aJ (aa 1) ah (fun _ _=>rfl))))) fu) (bQ (gP (bJ (jR hr.units) (aa 0) bA (ck _)) (bx (bZ (aO vy (aJ (aa 1) ah (fun _ _=>rfl)) (aJ (aa 1) ah (fun _ _=>rfl))))) fu) (bQ (gP (bJ (jR hr.units) (aa 0) bA (ck _)) (bx (bZ (aO tR (aJ (aa 1) ah (fun _ _=>rfl)) (aJ (aa 1) ah (fun _ _=>rfl))))) fu) (bx (bZ (bR C_vote_of hr (by decide) rfl (ab (aa 1) ak) (aR cw))))))))),hm,F.kp,F.binds fun _ _ _ _ _ _ us hl=>match us,hl with | [_,_,_],_=>rfl⟩
noncomputable abbrev cm:Stmt:=top 3
noncomputable abbrev fE:List Str:=[(Str.ofString "ins"),(Str.ofString "in_masks"),(Str.ofString "full"),(Str.ofString "bad"),(Str.ofString "wires"),(Str.ofString "place"),(Str.ofString "mask"),(Str.ofString "figure")]
noncomputable def oh:{b:List Stmt // ao cm=b}:=by
 have e:ao cm=ao cm:=rfl
 conv at e=>rhs;whnf
 exact⟨_,e⟩
noncomputable def jI:{b:Scope // ag cm=b}:=by
 have e:ag cm=ag cm:=rfl
 conv at e=>rhs;whnf
 exact⟨_,e⟩
theorem d5:aV fE [(Str.ofString "ins"),(Str.ofString "in_masks"),(Str.ofString "full"),(Str.ofString "bad")] jI.1:=⟨rfl,rfl,rfl,by decide+kernel,rfl,by decide+kernel,by decide+kernel⟩
noncomputable def gu:FZ:=(il 4 (xT (wW (b2 qM (aP cP (au (ai 4) aL)) (ai 3)) (e2 zw (ai 2) (ai 6)) (ai 6))))
noncomputable def jd:FZ:=(jt (iP (ee (e2 cD (e2 cD (ai 0) (ai 5)) (eC (.int 1))))) (i7 7) gu)
noncomputable def g9:FZ:=(bu (cn 4 (kY (dA aL))) (bu (jt (iP (xM (ai 1))) (yy 2 (uZ (i7 5) (uZ (i7 6) zp))) jd) (gK (bC 4))))
noncomputable def cX:List V3→aN→R3 V3:=kJ fE g9
noncomputable def oy:List V3→aN→R3 V3:=lU fE g9
theorem pd{P:Program}{w:World}{K:PySem.W.Frag}{mg:Str→Option Value}{base:Heap}{cl:Nat→Addr}(T:Tp K mg cl)(h:Def K mg (Str.ofString "in_wire_masks") cm):az P w K mg base cl 1 (Str.ofString "in_wire_masks") 4 cX:=by
 obtain⟨f,fd,F,hm⟩:=h
 exact⟨f,fd,_,bM (k:=0) oh.2 jI.2 F d5 (fun cdv A outer s H E hr=>(av (aW d5.nd rfl (Or.inl rfl) (fK (bV ak))) (av (d3 PassesOwn.never rfl (cR (xA (aa 1) rfl T.z_enumerate)) (pF rfl (fV (bg d5.nd rfl (Or.inl rfl)) (fV (bg d5.nd rfl (Or.inl rfl)) ny))) (aK (d3 PassesOwn.never rfl (cR (cG (aJ (aJ (aa 0) (aa 5) (fun _ _=>rfl)) ah (fun _ _=>rfl)) rfl T.z_range)) (bg d5.nd rfl (Or.inl rfl)) (aK (eB rfl (Or.inl rfl) (cF (xo (bJ Dm (aX dv rfl T.z_len PySem.boot_len (ab (aa 4) ak)) (aa 3) (by with_unfolding_all rfl)) (aO tR (aa 2) (aa 6)) (aa 6)))))))) (aK (cO (aI 4)))))),hm,F.kp,F.binds fun _ _ _ _ _ _ us hl=>match us,hl with | [_,_,_,_],_=>rfl⟩
noncomputable abbrev dZ:Stmt:=top 4
noncomputable abbrev ml:List Str:=[(Str.ofString "wires"),(Str.ofString "numbers")]
noncomputable def vE:{b:List Stmt // ao dZ=b}:=by
 have e:ao dZ=ao dZ:=rfl
 conv at e=>rhs;whnf
 exact⟨_,e⟩
noncomputable def kQ:{b:Scope // ag dZ=b}:=by
 have e:ag dZ=ag dZ:=rfl
 conv at e=>rhs;whnf
 exact⟨_,e⟩
theorem xr:aV ml [(Str.ofString "wires"),(Str.ofString "numbers")] kQ.1:=⟨rfl,rfl,rfl,by decide+kernel,rfl,by decide+kernel,by decide+kernel⟩
noncomputable def qd:FS:=(er (aP fH (au (eNew (gB (fQ (ai 1)) (aY 0) sW (e2 cD (ai 1) (ai 0)) [(Str.ofString "number")] [0])) aL)))
noncomputable def eF:List D→R D:=nP ml qd
theorem v7{P:Program}{w:World}{K:PySem.W.Frag}{mg:Str→Option Value}{base:Heap}{cl:Nat→Addr}(T:Tp K mg cl)(h:Def K mg (Str.ofString "masks_at") dZ):Callee P w K mg base 1 (Str.ofString "masks_at") 2 eF:=by
 obtain⟨f,fd,F,hm⟩:=h
 exact⟨f,fd,_,cZ (k:=0) vE.2 kQ.2 F xr (fun cdv A outer s H E hr=>(bx (bZ (kf pL rfl T.z_tuple PyProof.Rows.boot_tuple (ab (cU (iO rfl (cq.of (own:=[(Str.ofString "number")]) (kp:=[0]) (kn:=[(Str.ofString "wires")]) (sc:=kQ.1) (N:=ml) rfl rfl (by decide+kernel)) (d7 (aa 1)) (fun _ _ _=>(b_ (show List.Nodup [(Str.ofString "number"),(Str.ofString "wires")] from by decide+kernel) rfl (Or.inl rfl))) (fun _ _ _=>ix) (fun _ _ _=>(aJ (aa 1) (aa 0) (fun _ _=>rfl))))) ak))))),hm,F.kp,F.binds fun _ _ _ _ _ _ us hl=>match us,hl with | [_,_],_=>rfl⟩
noncomputable abbrev cT:Stmt:=top 5
noncomputable abbrev ik:List Str:=[(Str.ofString "net"),(Str.ofString "in_masks"),(Str.ofString "full"),(Str.ofString "turned"),(Str.ofString "bad"),(Str.ofString "wires"),(Str.ofString "place"),(Str.ofString "gate"),(Str.ofString "mask")]
noncomputable def rf:{b:List Stmt // ao cT=b}:=by
 have e:ao cT=ao cT:=rfl
 conv at e=>rhs;whnf
 exact⟨_,e⟩
noncomputable def lR:{b:Scope // ag cT=b}:=by
 have e:ag cT=ag cT:=rfl
 conv at e=>rhs;whnf
 exact⟨_,e⟩
theorem gd:aV ik [(Str.ofString "net"),(Str.ofString "in_masks"),(Str.ofString "full"),(Str.ofString "turned"),(Str.ofString "bad")] lR.1:=⟨rfl,rfl,rfl,by decide+kernel,rfl,by decide+kernel,by decide+kernel⟩
noncomputable def iH:FZ:=(bu (cn 8 (xT (aP fO (au (e2 cD (ai 7) (eC (.int 0))) (au (aP eF (au (ai 5) (au (e2 cD (ai 7) (eC (.int 1))) aL))) (au (ai 2) aL)))))) (il 5 (xP (wW (b2 qM (ai 6) (ai 3)) (e2 zw (ai 2) (ai 8)) (ai 8)))))
noncomputable def j3:FZ:=(bu (cn 5 (bO cX (aw (xP (e2 cD (ai 0) (eC (.int 0)))) (aw (xP (ai 1)) (aw (xP (ai 2)) (aw (xP (ai 4)) bH)))))) (bu (jt (iP (iZ (e2 cD (ai 0) (eC (.int 1))))) (yy 2 (uZ (i7 6) (uZ (i7 7) zp))) iH) (gK (bC 5))))
noncomputable def lQ:List V3→aN→R3 V3:=kJ ik j3
noncomputable def dy:List V3→aN→R3 V3:=lU ik j3
theorem tW{P:Program}{w:World}{K:PySem.W.Frag}{mg:Str→Option Value}{base:Heap}{cl:Nat→Addr}(T:Tp K mg cl)(h:Def K mg (Str.ofString "wire_masks") cT)(C_masks_at:Callee P w K mg base 1 (Str.ofString "masks_at") 2 eF)(C_gate_mask:Callee P w K mg base 2 (Str.ofString "gate_mask") 3 fO)(XK_in_wire_masks:az P w K mg base cl 1 (Str.ofString "in_wire_masks") 4 cX):az P w K mg base cl 3 (Str.ofString "wire_masks") 5 lQ:=by
 obtain⟨f,fd,F,hm⟩:=h
 exact⟨f,fd,_,bM (k:=2) rf.2 lR.2 F gd (fun cdv A outer s H E hr=>(av (aW gd.nd rfl (Or.inl rfl) (ba XK_in_wire_masks hr (by decide) rfl (ae (aj (aJ (aa 0) ah (fun _ _=>rfl))) (ae (aj (aa 1)) (ae (aj (aa 2)) (ae (aj (aa 4)) aC)))) (af (af (af (af aA)))))) (av (d3 PassesOwn.never rfl (cR (lH (aJ (aa 0) ah (fun _ _=>rfl)) rfl T.z_enumerate)) (pF rfl (fV (bg gd.nd rfl (Or.inl rfl)) (fV (bg gd.nd rfl (Or.inl rfl)) ny))) (av (aW gd.nd rfl (Or.inl rfl) (cF (bR C_gate_mask hr (by decide) rfl (ab (aJ (aa 7) ah (fun _ _=>rfl)) (ab (bR C_masks_at hr (by decide) rfl (ab (aa 5) (ab (aJ (aa 7) ah (fun _ _=>rfl)) ak)) (aR (aR cw))) (ab (aa 2) ak))) (aR (aR (aR cw)))))) (aK (eB rfl (Or.inl rfl) (aj (xo (bJ Dm (aa 6) (aa 3) (by with_unfolding_all rfl)) (aO tR (aa 2) (aa 8)) (aa 8))))))) (aK (cO (aI 5)))))),hm,F.kp,F.binds fun _ _ _ _ _ _ us hl=>match us,hl with | [_,_,_,_,_],_=>rfl⟩
noncomputable abbrev dk:Stmt:=top 6
noncomputable abbrev gU:List Str:=[(Str.ofString "net"),(Str.ofString "wires")]
noncomputable def tY:{b:List Stmt // ao dk=b}:=by
 have e:ao dk=ao dk:=rfl
 conv at e=>rhs;whnf
 exact⟨_,e⟩
noncomputable def j9:{b:Scope // ag dk=b}:=by
 have e:ag dk=ag dk:=rfl
 conv at e=>rhs;whnf
 exact⟨_,e⟩
theorem uJ:aV gU [(Str.ofString "net"),(Str.ofString "wires")] j9.1:=⟨rfl,rfl,rfl,by decide+kernel,rfl,by decide+kernel,by decide+kernel⟩
noncomputable def lp:FZ:=(gK (kY (gB (fQ (e2 cD (ai 0) (eC (.int 2)))) (eY 2 (b3 (aY 0) (b3 (aY 1) eZ))) sW (aP eF (au (ai 2) (au (ai 1) aL))) [(Str.ofString "name"),(Str.ofString "numbers")] [1])))
noncomputable def m4:List V3→aN→R3 V3:=kJ gU lp
noncomputable def dY:List V3→aN→R3 V3:=lU gU lp
theorem ug{P:Program}{w:World}{K:PySem.W.Frag}{mg:Str→Option Value}{base:Heap}{cl:Nat→Addr}(T:Tp K mg cl)(h:Def K mg (Str.ofString "out_masks") dk)(C_masks_at:Callee P w K mg base 1 (Str.ofString "masks_at") 2 eF):az P w K mg base cl 2 (Str.ofString "out_masks") 2 m4:=by
 obtain⟨f,fd,F,hm⟩:=h
 exact⟨f,fd,_,bM (k:=1) tY.2 j9.2 F uJ (fun cdv A outer s H E hr=>(aK (cO (fK (iO rfl (cq.of (own:=[(Str.ofString "name"),(Str.ofString "numbers")]) (kp:=[1]) (kn:=[(Str.ofString "wires")]) (sc:=j9.1) (N:=gU) rfl rfl (by decide+kernel)) (d7 (aJ (aa 0) ah (fun _ _=>rfl))) (fun _ _ _=>(kU rfl (dC (b_ (show List.Nodup [(Str.ofString "name"),(Str.ofString "numbers"),(Str.ofString "wires")] from by decide+kernel) rfl (Or.inl rfl)) (dC (b_ (show List.Nodup [(Str.ofString "name"),(Str.ofString "numbers"),(Str.ofString "wires")] from by decide+kernel) rfl (Or.inl rfl)) jT)))) (fun _ _ _=>ix) (fun _ _ _=>(bR C_masks_at hr (by decide) rfl (ab (aa 2) (ab (aa 1) ak)) (aR (aR cw))))))))),hm,F.kp,F.binds fun _ _ _ _ _ _ us hl=>match us,hl with | [_,_],_=>rfl⟩
noncomputable abbrev nD:Stmt:=top 7
noncomputable abbrev yc:List Str:=[(Str.ofString "net"),(Str.ofString "bits"),(Str.ofString "turned"),(Str.ofString "bad")]
noncomputable def F_:{b:List Stmt // ao nD=b}:=by
 have e:ao nD=ao nD:=rfl
 conv at e=>rhs;whnf
 exact⟨_,e⟩
noncomputable def Bk:{b:Scope // ag nD=b}:=by
 have e:ag nD=ag nD:=rfl
 conv at e=>rhs;whnf
 exact⟨_,e⟩
theorem G_:aV yc [(Str.ofString "net"),(Str.ofString "bits"),(Str.ofString "turned"),(Str.ofString "bad")] Bk.1:=⟨rfl,rfl,rfl,by decide+kernel,rfl,by decide+kernel,by decide+kernel⟩
noncomputable def AL:FZ:=(gK (bO dY (aw (xP (ai 0)) (aw (bO dy (aw (xP (ai 0)) (aw (xP (ai 1)) (aw (xP (eC (.int 1))) (aw (xP (ai 2)) (aw (xP (ai 3)) bH)))))) bH))))
noncomputable def Cd:List V3→aN→R3 V3:=kJ yc AL
noncomputable def n5:List V3→aN→R3 V3:=lU yc AL
theorem Hk{P:Program}{w:World}{K:PySem.W.Frag}{mg:Str→Option Value}{base:Heap}{cl:Nat→Addr}(T:Tp K mg cl)(h:Def K mg (Str.ofString "run") nD)(XP_out_masks:az P w K mg base cl 2 (Str.ofString "out_masks") 2 dY)(XP_wire_masks:az P w K mg base cl 3 (Str.ofString "wire_masks") 5 dy):az P w K mg base cl 4 (Str.ofString "run") 4 Cd:=by
 obtain⟨f,fd,F,hm⟩:=h
 exact⟨f,fd,_,bM (k:=3) F_.2 Bk.2 F G_ (fun cdv A outer s H E hr=>(aK (cO (ba XP_out_masks hr (by decide) rfl (ae (aj (aa 0)) (ae (ba XP_wire_masks hr (by decide) rfl (ae (aj (aa 0)) (ae (aj (aa 1)) (ae (aj ah) (ae (aj (aa 2)) (ae (aj (aa 3)) aC))))) (af (af (af (af (af aA)))))) aC)) (af (af aA)))))),hm,F.kp,F.binds fun _ _ _ _ _ _ us hl=>match us,hl with | [_,_,_,_],_=>rfl⟩
noncomputable abbrev eN:Stmt:=top 8
noncomputable abbrev lD:List Str:=[(Str.ofString "masks"),(Str.ofString "full"),(Str.ofString "ones")]
noncomputable def xp:{b:List Stmt // ao eN=b}:=by
 have e:ao eN=ao eN:=rfl
 conv at e=>rhs;whnf
 exact⟨_,e⟩
noncomputable def pY:{b:Scope // ag eN=b}:=by
 have e:ag eN=ag eN:=rfl
 conv at e=>rhs;whnf
 exact⟨_,e⟩
theorem sP:aV lD [(Str.ofString "masks"),(Str.ofString "full")] pY.1:=⟨rfl,rfl,rfl,by decide+kernel,rfl,by decide+kernel,by decide+kernel⟩
noncomputable def rP:FS:=(el (pj (b2 jC (aP cP (au (ai 0) aL)) (eC (.int 2))) (er (dU (au (e2 zw (ai 1) (e2 Cr (e2 cD (ai 0) (eC (.int 0))) (e2 cD (ai 0) (eC (.int 1))))) (au (e2 zQ (e2 cD (ai 0) (eC (.int 0))) (e2 cD (ai 0) (eC (.int 1)))) aL)))) jz) (el (ib 2 (wW (b2 jC (aP cP (au (ai 0) aL)) (eC (.int 1))) (e2 cD (ai 0) (eC (.int 0))) (aP fR (au (ai 0) aL)))) (er (dU (au (e2 zw (ai 1) (ai 2)) (au (ai 2) aL))))))
noncomputable def fP:List D→R D:=nP lD rP
theorem ze{P:Program}{w:World}{K:PySem.W.Frag}{mg:Str→Option Value}{base:Heap}{cl:Nat→Addr}(T:Tp K mg cl)(h:Def K mg (Str.ofString "reading") eN)(C_vote_of:Callee P w K mg base 1 (Str.ofString "vote_of") 1 fR):Callee P w K mg base 2 (Str.ofString "reading") 2 fP:=by
 obtain⟨f,fd,F,hm⟩:=h
 exact⟨f,fd,_,cZ (k:=1) xp.2 pY.2 F sP (fun cdv A outer s H E hr=>(bQ (gP (bJ (jR hr.units) (aX dv rfl T.z_len PySem.boot_len (ab (aa 0) ak)) ah (ck _)) (bx (bZ (cx (ab (aO tR (aa 1) (aO vy (aJ (aa 0) ah (fun _ _=>rfl)) (aJ (aa 0) ah (fun _ _=>rfl)))) (ab (aO uL (aJ (aa 0) ah (fun _ _=>rfl)) (aJ (aa 0) ah (fun _ _=>rfl))) ak))))) fu) (bQ (iJ sP.nd rfl (Or.inl rfl) (xo (bJ (jR hr.units) (aX dv rfl T.z_len PySem.boot_len (ab (aa 0) ak)) ah (ck _)) (aJ (aa 0) ah (fun _ _=>rfl)) (bR C_vote_of hr (by decide) rfl (ab (aa 0) ak) (aR cw)))) (bx (bZ (cx (ab (aO tR (aa 1) (aa 2)) (ab (aa 2) ak)))))))),hm,F.kp,F.binds fun _ _ _ _ _ _ us hl=>match us,hl with | [_,_],_=>rfl⟩
noncomputable abbrev gx:Stmt:=top 9
noncomputable abbrev vW:List Str:=[(Str.ofString "mask"),(Str.ofString "number")]
noncomputable def yW:{b:List Stmt // ao gx=b}:=by
 have e:ao gx=ao gx:=rfl
 conv at e=>rhs;whnf
 exact⟨_,e⟩
noncomputable def sE:{b:Scope // ag gx=b}:=by
 have e:ag gx=ag gx:=rfl
 conv at e=>rhs;whnf
 exact⟨_,e⟩
theorem Bd:aV vW [(Str.ofString "mask"),(Str.ofString "number")] sE.1:=⟨rfl,rfl,rfl,by decide+kernel,rfl,by decide+kernel,by decide+kernel⟩
noncomputable def u0:FS:=(er (e2 zQ (e2 oI (ai 0) (ai 1)) (eC (.int 1))))
noncomputable def eL:List D→R D:=nP vW u0
theorem BR{P:Program}{w:World}{K:PySem.W.Frag}{mg:Str→Option Value}{base:Heap}{cl:Nat→Addr}(T:Tp K mg cl)(h:Def K mg (Str.ofString "bit_at") gx):Callee P w K mg base 1 (Str.ofString "bit_at") 2 eL:=by
 obtain⟨f,fd,F,hm⟩:=h
 exact⟨f,fd,_,cZ (k:=0) yW.2 sE.2 F Bd (fun cdv A outer s H E hr=>(bx (bZ (aO uL (aO HE (aa 0) (aa 1)) ah)))),hm,F.kp,F.binds fun _ _ _ _ _ _ us hl=>match us,hl with | [_,_],_=>rfl⟩
noncomputable abbrev eU:Stmt:=top 10
noncomputable abbrev jO:List Str:=[(Str.ofString "masks"),(Str.ofString "number")]
noncomputable def xi:{b:List Stmt // ao eU=b}:=by
 have e:ao eU=ao eU:=rfl
 conv at e=>rhs;whnf
 exact⟨_,e⟩
noncomputable def qI:{b:Scope // ag eU=b}:=by
 have e:ag eU=ag eU:=rfl
 conv at e=>rhs;whnf
 exact⟨_,e⟩
theorem zx:aV jO [(Str.ofString "masks"),(Str.ofString "number")] qI.1:=⟨rfl,rfl,rfl,by decide+kernel,rfl,by decide+kernel,by decide+kernel⟩
noncomputable def sJ:FS:=(el (pj (b2 jC (aP eL (au (e2 cD (ai 0) (eC (.int 0))) (au (ai 1) aL))) (eC (.int 1))) (er (eC (.int 0))) jz) (el (pj (b2 jC (aP eL (au (e2 cD (ai 0) (eC (.int 1))) (au (ai 1) aL))) (eC (.int 1))) (er (eC (.int 1))) jz) (er (eC .cS))))
noncomputable def fW:List D→R D:=nP jO sJ
theorem zm{P:Program}{w:World}{K:PySem.W.Frag}{mg:Str→Option Value}{base:Heap}{cl:Nat→Addr}(T:Tp K mg cl)(h:Def K mg (Str.ofString "read_at") eU)(C_bit_at:Callee P w K mg base 1 (Str.ofString "bit_at") 2 eL):Callee P w K mg base 2 (Str.ofString "read_at") 2 fW:=by
 obtain⟨f,fd,F,hm⟩:=h
 exact⟨f,fd,_,cZ (k:=1) xi.2 qI.2 F zx (fun cdv A outer s H E hr=>(bQ (gP (bJ (jR hr.units) (bR C_bit_at hr (by decide) rfl (ab (aJ (aa 0) ah (fun _ _=>rfl)) (ab (aa 1) ak)) (aR (aR cw))) ah (ck _)) (bx (bZ ah)) fu) (bQ (gP (bJ (jR hr.units) (bR C_bit_at hr (by decide) rfl (ab (aJ (aa 0) ah (fun _ _=>rfl)) (ab (aa 1) ak)) (aR (aR cw))) ah (ck _)) (bx (bZ ah)) fu) (bx (bZ xK))))),hm,F.kp,F.binds fun _ _ _ _ _ _ us hl=>match us,hl with | [_,_],_=>rfl⟩
noncomputable abbrev kg:Stmt:=top 11
noncomputable abbrev AS:List Str:=[(Str.ofString "bits")]
noncomputable def C_:{b:List Stmt // ao kg=b}:=by
 have e:ao kg=ao kg:=rfl
 conv at e=>rhs;whnf
 exact⟨_,e⟩
noncomputable def yz:{b:Scope // ag kg=b}:=by
 have e:ag kg=ag kg:=rfl
 conv at e=>rhs;whnf
 exact⟨_,e⟩
theorem EK:aV AS [(Str.ofString "bits")] yz.1:=⟨rfl,rfl,rfl,by decide+kernel,rfl,by decide+kernel,by decide+kernel⟩
noncomputable def Am:FS:=(er (aP fW (au (aP fP (au (ai 0) (au (eC (.int 1)) aL))) (au (eC (.int 0)) aL))))
noncomputable def mD:List D→R D:=nP AS Am
theorem E_{P:Program}{w:World}{K:PySem.W.Frag}{mg:Str→Option Value}{base:Heap}{cl:Nat→Addr}(T:Tp K mg cl)(h:Def K mg (Str.ofString "told") kg)(C_reading:Callee P w K mg base 2 (Str.ofString "reading") 2 fP)(C_read_at:Callee P w K mg base 2 (Str.ofString "read_at") 2 fW):Callee P w K mg base 3 (Str.ofString "told") 1 mD:=by
 obtain⟨f,fd,F,hm⟩:=h
 exact⟨f,fd,_,cZ (k:=2) C_.2 yz.2 F EK (fun cdv A outer s H E hr=>(bx (bZ (bR C_read_at hr (by decide) rfl (ab (bR C_reading hr (by decide) rfl (ab (aa 0) (ab ah ak)) (aR (aR cw))) (ab ah ak)) (aR (aR cw)))))),hm,F.kp,F.binds fun _ _ _ _ _ _ us hl=>match us,hl with | [_],_=>rfl⟩
noncomputable abbrev cV:Stmt:=top 12
noncomputable abbrev ij:List Str:=[(Str.ofString "count"),(Str.ofString "inputs"),(Str.ofString "place"),(Str.ofString "longer"),(Str.ofString "bits")]
noncomputable def rD:{b:List Stmt // ao cV=b}:=by
 have e:ao cV=ao cV:=rfl
 conv at e=>rhs;whnf
 exact⟨_,e⟩
noncomputable def lZ:{b:Scope // ag cV=b}:=by
 have e:ag cV=ag cV:=rfl
 conv at e=>rhs;whnf
 exact⟨_,e⟩
theorem eR:aV ij [(Str.ofString "count")] lZ.1:=⟨rfl,rfl,rfl,by decide+kernel,rfl,by decide+kernel,by decide+kernel⟩
noncomputable def kO:FZ:=(bu (il 3 (xP (e2 jU (ai 4) (dU (au (eC (.int 0)) aL))))) (il 3 (xP (e2 jU (ai 4) (dU (au (eC (.int 1)) aL))))))
noncomputable def lh:FZ:=(Bg 1 (bu (cn 3 (kY (dA aL))) (bu (jt (iP (fQ (ai 1))) (i7 4) kO) (cn 1 (bC 3)))))
noncomputable def kr:FZ:=(bu (cn 1 (kY (dA (au (dU aL) aL)))) (bu (jt (iP (ee (ai 0))) (i7 2) lh) (gK (bC 1))))
noncomputable def l5:List V3→aN→R3 V3:=kJ ij kr
noncomputable def fw:List V3→aN→R3 V3:=lU ij kr
theorem ua{P:Program}{w:World}{K:PySem.W.Frag}{mg:Str→Option Value}{base:Heap}{cl:Nat→Addr}(T:Tp K mg cl)(h:Def K mg (Str.ofString "all_inputs") cV):az P w K mg base cl 1 (Str.ofString "all_inputs") 1 l5:=by
 obtain⟨f,fd,F,hm⟩:=h
 exact⟨f,fd,_,bM (k:=0) rD.2 lZ.2 F eR (fun cdv A outer s H E hr=>(av (aW eR.nd rfl (Or.inl rfl) (fK (bV (ab (cx ak) ak)))) (av (d3 PassesOwn.never rfl (cR (cG (aa 0) rfl T.z_range)) (bg eR.nd rfl (Or.inl rfl)) (DV 1 (av (aW eR.nd rfl (Or.inl rfl) (fK (bV ak))) (av (d3 PassesOwn.never rfl (cR (d7 (aa 1))) (bg eR.nd rfl (Or.inl rfl)) (av (eB rfl (Or.inl rfl) (aj (aO mr (aa 4) (cx (ab ah ak))))) (aK (eB rfl (Or.inl rfl) (aj (aO mr (aa 4) (cx (ab ah ak)))))))) (aK (aW eR.nd rfl (Or.inl rfl) (aI 3))))))) (aK (cO (aI 1)))))),hm,F.kp,F.binds fun _ _ _ _ _ _ us hl=>match us,hl with | [_],_=>rfl⟩
noncomputable abbrev eQ:Stmt:=top 13
noncomputable abbrev oi:List Str:=[(Str.ofString "bits"),(Str.ofString "mask"),(Str.ofString "bit")]
noncomputable def wZ:{b:List Stmt // ao eQ=b}:=by
 have e:ao eQ=ao eQ:=rfl
 conv at e=>rhs;whnf
 exact⟨_,e⟩
noncomputable def qj:{b:Scope // ag eQ=b}:=by
 have e:ag eQ=ag eQ:=rfl
 conv at e=>rhs;whnf
 exact⟨_,e⟩
theorem lK:aV oi [(Str.ofString "bits")] qj.1:=⟨rfl,rfl,rfl,by decide+kernel,rfl,by decide+kernel,by decide+kernel⟩
noncomputable def kM:FS:=(ib 1 (e2 e_ (e2 mw (ai 1) (eC (.int 2))) (ai 2)))
noncomputable def rN:FS:=(el (ib 1 (eC (.int 0))) (el (o9 (Ez (ai 0)) (aY 2) kM) (er (ai 1))))
noncomputable def fU:List D→R D:=nP oi rN
theorem zq{P:Program}{w:World}{K:PySem.W.Frag}{mg:Str→Option Value}{base:Heap}{cl:Nat→Addr}(T:Tp K mg cl)(h:Def K mg (Str.ofString "mask_of") eQ):Callee P w K mg base 1 (Str.ofString "mask_of") 1 fU:=by
 obtain⟨f,fd,F,hm⟩:=h
 exact⟨f,fd,_,cZ (k:=0) wZ.2 qj.2 F lK (fun cdv A outer s H E hr=>(bQ (iJ lK.nd rfl (Or.inl rfl) ah) (bQ (jJ PassesOwn.never rfl (Ce (aa 0) rfl T.z_reversed) (b_ lK.nd rfl (Or.inl rfl)) (bx (iJ lK.nd rfl (Or.inl rfl) (aO hJ (aO vN (aa 1) ah) (aa 2))))) (bx (bZ (aa 1)))))),hm,F.kp,F.binds fun _ _ _ _ _ _ us hl=>match us,hl with | [_],_=>rfl⟩
noncomputable abbrev eX:Stmt:=top 14
noncomputable abbrev oH:List Str:=[(Str.ofString "inputs"),(Str.ofString "place")]
noncomputable def wX:{b:List Stmt // ao eX=b}:=by
 have e:ao eX=ao eX:=rfl
 conv at e=>rhs;whnf
 exact⟨_,e⟩
noncomputable def l9:{b:Scope // ag eX=b}:=by
 have e:ag eX=ag eX:=rfl
 conv at e=>rhs;whnf
 exact⟨_,e⟩
theorem zN:aV oH [(Str.ofString "inputs"),(Str.ofString "place")] l9.1:=⟨rfl,rfl,rfl,by decide+kernel,rfl,by decide+kernel,by decide+kernel⟩
noncomputable def sM:FS:=(er (aP fU (au (eNew (gB (fQ (ai 0)) (aY 0) sW (e2 cD (ai 0) (ai 1)) [(Str.ofString "bits")] [1])) aL)))
noncomputable def iy:List D→R D:=nP oH sM
theorem zE{P:Program}{w:World}{K:PySem.W.Frag}{mg:Str→Option Value}{base:Heap}{cl:Nat→Addr}(T:Tp K mg cl)(h:Def K mg (Str.ofString "in_mask") eX)(C_mask_of:Callee P w K mg base 1 (Str.ofString "mask_of") 1 fU):Callee P w K mg base 2 (Str.ofString "in_mask") 2 iy:=by
 obtain⟨f,fd,F,hm⟩:=h
 exact⟨f,fd,_,cZ (k:=1) wX.2 l9.2 F zN (fun cdv A outer s H E hr=>(bx (bZ (bR C_mask_of hr (by decide) rfl (ab (cU (iO rfl (cq.of (own:=[(Str.ofString "bits")]) (kp:=[1]) (kn:=[(Str.ofString "place")]) (sc:=l9.1) (N:=oH) rfl rfl (by decide+kernel)) (d7 (aa 0)) (fun _ _ _=>(b_ (show List.Nodup [(Str.ofString "bits"),(Str.ofString "place")] from by decide+kernel) rfl (Or.inl rfl))) (fun _ _ _=>ix) (fun _ _ _=>(aJ (aa 0) (aa 1) (fun _ _=>rfl))))) ak) (aR cw))))),hm,F.kp,F.binds fun _ _ _ _ _ _ us hl=>match us,hl with | [_,_],_=>rfl⟩
noncomputable abbrev bp:Stmt:=inClass (top 15) 0
noncomputable abbrev cY:List Str:=[(Str.ofString "self"),(Str.ofString "net"),(Str.ofString "inputs")]
noncomputable def nT:{b:List Stmt // ao bp=b}:=by
 have e:ao bp=ao bp:=rfl
 conv at e=>rhs;whnf
 exact⟨_,e⟩
noncomputable def eg:{b:Scope // ag bp=b}:=by
 have e:ag bp=ag bp:=rfl
 conv at e=>rhs;whnf
 exact⟨_,e⟩
theorem jL:aV cY [(Str.ofString "self"),(Str.ofString "net")] eg.1:=⟨rfl,rfl,rfl,by decide+kernel,rfl,by decide+kernel,by decide+kernel⟩
noncomputable def gJ:FZ:=(bu (cn 2 (bO fw (aw (xP (aP cP (au (e2 cD (ai 1) (eC (.int 0))) aL))) bH))) (bu (tQ 0 (Str.ofString "net") (bC 0) (xP (ai 1))) (bu (tQ 0 (Str.ofString "many_inputs") (bC 0) (xP (aP cP (au (ai 2) aL)))) (bu (tQ 0 (Str.ofString "full") (bC 0) (xP (aP fU (au (eNew (gB (fQ (ai 2)) (aY 0) sW (eC (.int 1)) [(Str.ofString "bits")] [])) aL)))) (tQ 0 (Str.ofString "in_masks") (bC 0) (xP (eNew (gB (ee (aP cP (au (e2 cD (ai 1) (eC (.int 0))) aL))) (aY 0) sW (aP iy (au (ai 1) (au (ai 0) aL))) [(Str.ofString "place")] [2]))))))))
noncomputable def cf:List V3→aN→R3 V3:=kJ cY gJ
noncomputable def yf:List V3→aN→R3 V3:=lU cY gJ
theorem dF{P:Program}{w:World}{K:PySem.W.Frag}{mg:Str→Option Value}{base:Heap}{cl:Nat→Addr}(T:Tp K mg cl)(h:yS K (cl 0) (Str.ofString "__init__") (Str.ofString "Bench.__init__") bp)(C_mask_of:Callee P w K mg base 1 (Str.ofString "mask_of") 1 fU)(C_in_mask:Callee P w K mg base 2 (Str.ofString "in_mask") 2 iy)(XP_all_inputs:az P w K mg base cl 1 (Str.ofString "all_inputs") 1 fw):nR P w K mg base cl 3 0 (Str.ofString "Bench") 1 cf:=by
 obtain⟨f,fd,F,hm⟩:=h
 exact⟨f,fd,_,hm,bM (k:=2) nT.2 eg.2 F jL (fun cdv A outer s H E hr=>(av (aW jL.nd rfl (Or.inr rfl) (ba XP_all_inputs hr (by decide) rfl (ae (aj (aX dv rfl T.z_len PySem.boot_len (ab (aJ (aa 1) ah (fun _ _=>rfl)) ak))) aC) (af aA))) (av (mJ T.C_Bench T.N_Bench_net (aI 0) (aj (aa 1))) (av (mJ T.C_Bench T.N_Bench_many_inputs (aI 0) (aj (aX dv rfl T.z_len PySem.boot_len (ab (aa 2) ak)))) (av (mJ T.C_Bench T.N_Bench_full (aI 0) (aj (bR C_mask_of hr (by decide) rfl (ab (cU (iO rfl (cq.of (own:=[(Str.ofString "bits")]) (kp:=[]) (kn:=[]) (sc:=eg.1) (N:=cY) rfl rfl (by decide+kernel)) (d7 (aa 2)) (fun _ _ _=>(b_ (show List.Nodup [(Str.ofString "bits")] from by decide+kernel) rfl (Or.inl rfl))) (fun _ _ _=>ix) (fun _ _ _=>ah))) ak) (aR cw)))) (aK (mJ T.C_Bench T.N_Bench_in_masks (aI 0) (aj (cU (iO rfl (cq.of (own:=[(Str.ofString "place")]) (kp:=[2]) (kn:=[(Str.ofString "inputs")]) (sc:=eg.1) (N:=cY) rfl rfl (by decide+kernel)) (cG (aX dv rfl T.z_len PySem.boot_len (ab (aJ (aa 1) ah (fun _ _=>rfl)) ak)) rfl T.z_range) (fun _ _ _=>(b_ (show List.Nodup [(Str.ofString "place"),(Str.ofString "inputs")] from by decide+kernel) rfl (Or.inl rfl))) (fun _ _ _=>ix) (fun _ _ _=>(bR C_in_mask hr (by decide) rfl (ab (aa 1) (ab (aa 0) ak)) (aR (aR cw)))))))))))))),T.M_Bench,F.binds fun _ _ _ _ _ _ us hl=>match us,hl with | [_,_],_=>rfl⟩
noncomputable abbrev bL:Stmt:=inClass (top 15) 1
noncomputable abbrev gM:List Str:=[(Str.ofString "self"),(Str.ofString "turned"),(Str.ofString "bad")]
noncomputable def qN:{b:List Stmt // ao bL=b}:=by
 have e:ao bL=ao bL:=rfl
 conv at e=>rhs;whnf
 exact⟨_,e⟩
noncomputable def k9:{b:Scope // ag bL=b}:=by
 have e:ag bL=ag bL:=rfl
 conv at e=>rhs;whnf
 exact⟨_,e⟩
theorem q9:aV gM [(Str.ofString "self"),(Str.ofString "turned"),(Str.ofString "bad")] k9.1:=⟨rfl,rfl,rfl,by decide+kernel,rfl,by decide+kernel,by decide+kernel⟩
noncomputable def js:FZ:=(gK (bO dY (aw (lq 0 (Str.ofString "net") (bC 0)) (aw (bO dy (aw (lq 0 (Str.ofString "net") (bC 0)) (aw (lq 0 (Str.ofString "in_masks") (bC 0)) (aw (lq 0 (Str.ofString "full") (bC 0)) (aw (xP (ai 1)) (aw (xP (ai 2)) bH)))))) bH))))
noncomputable def lz:List V3→aN→R3 V3:=kJ gM js
noncomputable def eJ:List V3→aN→R3 V3:=lU gM js
theorem ft{P:Program}{w:World}{K:PySem.W.Frag}{mg:Str→Option Value}{base:Heap}{cl:Nat→Addr}(T:Tp K mg cl)(h:mG K (cl 0) (Str.ofString "tells") (Str.ofString "Bench.tells") bL)(XP_out_masks:az P w K mg base cl 2 (Str.ofString "out_masks") 2 dY)(XP_wire_masks:az P w K mg base cl 3 (Str.ofString "wire_masks") 5 dy):dD P w K mg base cl 4 0 (Str.ofString "tells") 2 lz:=by
 obtain⟨f,fd,F,hm⟩:=h
 exact⟨f,fd,_,T.C_Bench,hm,bM (k:=3) qN.2 k9.2 F q9 (fun cdv A outer s H E hr=>(aK (cO (ba XP_out_masks hr (by decide) rfl (ae (fG T.C_Bench T.N_Bench_net (aI 0)) (ae (ba XP_wire_masks hr (by decide) rfl (ae (fG T.C_Bench T.N_Bench_net (aI 0)) (ae (fG T.C_Bench T.N_Bench_in_masks (aI 0)) (ae (fG T.C_Bench T.N_Bench_full (aI 0)) (ae (aj (aa 1)) (ae (aj (aa 2)) aC))))) (af (af (af (af (af aA)))))) aC)) (af (af aA)))))),F.binds fun _ _ _ _ _ _ us hl=>match us,hl with | [_,_,_],_=>rfl⟩
noncomputable abbrev bo:Stmt:=inClass (top 15) 2
noncomputable abbrev dI:List Str:=[(Str.ofString "self"),(Str.ofString "turned")]
noncomputable def nO:{b:List Stmt // ao bo=b}:=by
 have e:ao bo=ao bo:=rfl
 conv at e=>rhs;whnf
 exact⟨_,e⟩
noncomputable def gp:{b:Scope // ag bo=b}:=by
 have e:ag bo=ag bo:=rfl
 conv at e=>rhs;whnf
 exact⟨_,e⟩
theorem oq:aV dI [(Str.ofString "self"),(Str.ofString "turned")] gp.1:=⟨rfl,rfl,rfl,by decide+kernel,rfl,by decide+kernel,by decide+kernel⟩
noncomputable def gE:FZ:=(gK (gS (vd (jN 0 (Str.ofString "tells") eJ (bC 0) (aw (xP (ai 1)) (aw (xP (dU aL)) bH)))) (i7 0) tU (k5 fP (aw (xP (ai 0)) (aw (lq 0 (Str.ofString "full") (bC 1)) bH))) [(Str.ofString "masks")] [0]))
noncomputable def jb:List V3→aN→R3 V3:=kJ dI gE
noncomputable def bN:List V3→aN→R3 V3:=lU dI gE
theorem dM{P:Program}{w:World}{K:PySem.W.Frag}{mg:Str→Option Value}{base:Heap}{cl:Nat→Addr}(T:Tp K mg cl)(h:mG K (cl 0) (Str.ofString "readings") (Str.ofString "Bench.readings") bo)(C_reading:Callee P w K mg base 2 (Str.ofString "reading") 2 fP)(XP_Bench_tells:dD P w K mg base cl 4 0 (Str.ofString "tells") 2 eJ):dD P w K mg base cl 5 0 (Str.ofString "readings") 1 jb:=by
 obtain⟨f,fd,F,hm⟩:=h
 exact⟨f,fd,_,T.C_Bench,hm,bM (k:=4) nO.2 gp.2 F oq (fun cdv A outer s H E hr=>(aK (cO (lI rfl (cq.of (own:=[(Str.ofString "masks")]) (kp:=[0]) (kn:=[(Str.ofString "self")]) (sc:=gp.1) (N:=dI) rfl rfl (by decide+kernel)) (m5 (gr XP_Bench_tells hr (by decide) (aI 0) (ae (aj (aa 1)) (ae (aj (cx ak)) aC)) (af (af aA)))) (fun _ _ _=>(bg (show List.Nodup [(Str.ofString "masks"),(Str.ofString "self")] from by decide+kernel) rfl (Or.inl rfl))) (fun _ _ _=>ip) (fun _ _ _=>(uO C_reading hr (by decide) rfl (ae (aj (aa 0)) (ae (fG T.C_Bench T.N_Bench_full (aI 1)) aC)) (af (af aA)))))))),F.binds fun _ _ _ _ _ _ us hl=>match us,hl with | [_,_],_=>rfl⟩
noncomputable abbrev bF:Stmt:=inClass (top 15) 3
noncomputable abbrev eE:List Str:=[(Str.ofString "self"),(Str.ofString "masks")]
noncomputable def ph:{b:List Stmt // ao bF=b}:=by
 have e:ao bF=ao bF:=rfl
 conv at e=>rhs;whnf
 exact⟨_,e⟩
noncomputable def g6:{b:Scope // ag bF=b}:=by
 have e:ag bF=ag bF:=rfl
 conv at e=>rhs;whnf
 exact⟨_,e⟩
theorem qT:aV eE [(Str.ofString "self"),(Str.ofString "masks")] g6.1:=⟨rfl,rfl,rfl,by decide+kernel,rfl,by decide+kernel,by decide+kernel⟩
noncomputable def iM:FZ:=(gK (gS (k8 (lq 0 (Str.ofString "many_inputs") (bC 0))) (i7 0) tU (xP (aP fW (au (ai 1) (au (ai 0) aL)))) [(Str.ofString "number")] [1]))
noncomputable def kD:List V3→aN→R3 V3:=kJ eE iM
noncomputable def d4:List V3→aN→R3 V3:=lU eE iM
theorem eI{P:Program}{w:World}{K:PySem.W.Frag}{mg:Str→Option Value}{base:Heap}{cl:Nat→Addr}(T:Tp K mg cl)(h:mG K (cl 0) (Str.ofString "column") (Str.ofString "Bench.column") bF)(C_read_at:Callee P w K mg base 2 (Str.ofString "read_at") 2 fW):dD P w K mg base cl 3 0 (Str.ofString "column") 1 kD:=by
 obtain⟨f,fd,F,hm⟩:=h
 exact⟨f,fd,_,T.C_Bench,hm,bM (k:=2) ph.2 g6.2 F qT (fun cdv A outer s H E hr=>(aK (cO (lI rfl (cq.of (own:=[(Str.ofString "number")]) (kp:=[1]) (kn:=[(Str.ofString "masks")]) (sc:=g6.1) (N:=eE) rfl rfl (by decide+kernel)) (fF (fG T.C_Bench T.N_Bench_many_inputs (aI 0)) rfl T.z_range) (fun _ _ _=>(bg (show List.Nodup [(Str.ofString "number"),(Str.ofString "masks")] from by decide+kernel) rfl (Or.inl rfl))) (fun _ _ _=>ip) (fun _ _ _=>(aj (bR C_read_at hr (by decide) rfl (ab (aa 1) (ab (aa 0) ak)) (aR (aR cw))))))))),F.binds fun _ _ _ _ _ _ us hl=>match us,hl with | [_,_],_=>rfl⟩
noncomputable abbrev eV:Stmt:=top 16
noncomputable abbrev jF:List Str:=[(Str.ofString "net"),(Str.ofString "bench")]
noncomputable def wG:{b:List Stmt // ao eV=b}:=by
 have e:ao eV=ao eV:=rfl
 conv at e=>rhs;whnf
 exact⟨_,e⟩
noncomputable def mB:{b:Scope // ag eV=b}:=by
 have e:ag eV=ag eV:=rfl
 conv at e=>rhs;whnf
 exact⟨_,e⟩
theorem r9:aV jF [(Str.ofString "net")] mB.1:=⟨rfl,rfl,rfl,by decide+kernel,rfl,by decide+kernel,by decide+kernel⟩
noncomputable def n6:FZ:=(bu (cn 1 (si 0 cf (aw (xP (ai 0)) bH))) (gK (gS (vd (jN 0 (Str.ofString "readings") bN (bC 1) (aw (xP (dU aL)) bH))) (i7 0) tU (jN 0 (Str.ofString "column") d4 (bC 1) (aw (xP (ai 0)) bH)) [(Str.ofString "masks")] [1])))
noncomputable def qv:List V3→aN→R3 V3:=kJ jF n6
noncomputable def j_:List V3→aN→R3 V3:=lU jF n6
theorem zj{P:Program}{w:World}{K:PySem.W.Frag}{mg:Str→Option Value}{base:Heap}{cl:Nat→Addr}(T:Tp K mg cl)(h:Def K mg (Str.ofString "columns") eV)(XK_Bench___init__:nR P w K mg base cl 3 0 (Str.ofString "Bench") 1 cf)(XP_Bench_readings:dD P w K mg base cl 5 0 (Str.ofString "readings") 1 bN)(XP_Bench_column:dD P w K mg base cl 3 0 (Str.ofString "column") 1 d4):az P w K mg base cl 6 (Str.ofString "columns") 1 qv:=by
 obtain⟨f,fd,F,hm⟩:=h
 exact⟨f,fd,_,bM (k:=5) wG.2 mB.2 F r9 (fun cdv A outer s H E hr=>(av (aW r9.nd rfl (Or.inr rfl) (pI XK_Bench___init__ hr (by decide) rfl (ae (aj (aa 0)) aC) (af aA))) (aK (cO (lI rfl (cq.of (own:=[(Str.ofString "masks")]) (kp:=[1]) (kn:=[(Str.ofString "bench")]) (sc:=mB.1) (N:=jF) rfl rfl (by decide+kernel)) (m5 (gr XP_Bench_readings hr (by decide) (aI 1) (ae (aj (cx ak)) aC) (af aA))) (fun _ _ _=>(bg (show List.Nodup [(Str.ofString "masks"),(Str.ofString "bench")] from by decide+kernel) rfl (Or.inl rfl))) (fun _ _ _=>ip) (fun _ _ _=>(gr XP_Bench_column hr (by decide) (aI 1) (ae (aj (aa 0)) aC) (af aA)))))))),hm,F.kp,F.binds fun _ _ _ _ _ _ us hl=>match us,hl with | [_],_=>rfl⟩
noncomputable abbrev eW:Stmt:=top 18
noncomputable abbrev jS:List Str:=[(Str.ofString "places"),(Str.ofString "size"),(Str.ofString "found"),(Str.ofString "ahead"),(Str.ofString "place"),(Str.ofString "rest")]
noncomputable def wL:{b:List Stmt // ao eW=b}:=by
 have e:ao eW=ao eW:=rfl
 conv at e=>rhs;whnf
 exact⟨_,e⟩
noncomputable def qt:{b:Scope // ag eW=b}:=by
 have e:ag eW=ag eW:=rfl
 conv at e=>rhs;whnf
 exact⟨_,e⟩
theorem jM:aV jS [(Str.ofString "places"),(Str.ofString "size")] qt.1:=⟨rfl,rfl,rfl,by decide+kernel,rfl,by decide+kernel,by decide+kernel⟩
noncomputable def lg(self:List D→R D):FS:=(n0 2 (e2 jU (dU (au (ai 4) aL)) (ai 5)))
noncomputable def kP(self:List D→R D):FS:=(o9 (fQ (aP self (au (wj (ai 0) (hW (e2 jU (ai 3) (eC (.int 1)))) kB) (au (e2 jG (ai 1) (eC (.int 1))) aL)))) (aY 5) (lg self))
noncomputable def jE(self:List D→R D):FS:=(el (pj (b2 jC (ai 1) (eC (.int 0))) (er (eNew (dA (au (dU aL) aL)))) jz) (el (nc 2 (dA aL)) (el (o9 (iZ (ai 0)) (eY 2 (b3 (aY 3) (b3 (aY 4) eZ))) (kP self)) (pA 2 (er (ai 2))))))
noncomputable def dH:Nat→List D→R D
 | 0=>fun _=> .no
 | n+1=>nP jS (jE (dH n))
theorem rL{P:Program}{w:World}{K:PySem.W.Frag}{mg:Str→Option Value}{base:Heap}{cl:Nat→Addr}(T:Tp K mg cl)(h:Def K mg (Str.ofString "choices") eW):∀n,Callee P w K mg base (1+n) (Str.ofString "choices") 2 (dH n)
 | 0=>by
   obtain⟨f,fd,F,hm⟩:=h
   exact⟨f,fd,[(Str.ofString "places"),(Str.ofString "size")],Ik,hm,F.kp,F.binds fun _ _ _ _ _ _ us hl=>match us,hl with | [_,_],_=>rfl⟩
 | n+1=>by
   have C_self:=rL (P:=P) (w:=w) (K:=K) (mg:=mg) (base:=base) T h n
   obtain⟨f,fd,F,hm⟩:=h
   exact⟨f,fd,_,cZ (k:=1+n) wL.2 qt.2 F jM (fun cdv A outer s H E hr=>(bQ (gP (bJ (jR hr.units) (aa 1) ah (ck _)) (bx (bZ (cU (bV (ab (cx ak) ak))))) fu) (bQ (BM jM.nd rfl (Or.inl rfl) (bV ak)) (bQ (jJ PassesOwn.never rfl (lH (aa 0) rfl T.z_enumerate) (kU rfl (dC (b_ jM.nd rfl (Or.inl rfl)) (dC (b_ jM.nd rfl (Or.inl rfl)) jT))) (bx (jJ PassesOwn.never rfl (d7 (bR C_self hr (by omega) rfl (ab (wM (aa 0) (nU (aO mr (aa 3) ah)) vR) (ab (aO oZ (aa 1) ah) ak)) (aR (aR cw)))) (b_ jM.nd rfl (Or.inl rfl)) (bx (z_ rfl (Or.inl rfl) (aO mr (cx (ab (aa 4) ak)) (aa 5))))))) (B5 2 (bx (bZ (aa 2)))))))),hm,F.kp,F.binds fun _ _ _ _ _ _ us hl=>match us,hl with | [_,_],_=>rfl⟩
noncomputable abbrev bj:Stmt:=inClass (top 19) 0
noncomputable abbrev dG:List Str:=[(Str.ofString "self"),(Str.ofString "net")]
noncomputable def m_:{b:List Stmt // ao bj=b}:=by
 have e:ao bj=ao bj:=rfl
 conv at e=>rhs;whnf
 exact⟨_,e⟩
noncomputable def f9:{b:Scope // ag bj=b}:=by
 have e:ag bj=ag bj:=rfl
 conv at e=>rhs;whnf
 exact⟨_,e⟩
theorem ox:aV dG [(Str.ofString "self"),(Str.ofString "net")] f9.1:=⟨rfl,rfl,rfl,by decide+kernel,rfl,by decide+kernel,by decide+kernel⟩
noncomputable def gI:FZ:=(bu (tQ 1 (Str.ofString "bench") (bC 0) (si 0 cf (aw (xP (ai 1)) bH))) (bu (tQ 1 (Str.ofString "plain") (bC 0) (jN 0 (Str.ofString "readings") bN (lq 1 (Str.ofString "bench") (bC 0)) (aw (xP (dU aL)) bH))) (tQ 1 (Str.ofString "unsure") (bC 0) (xP (eNew (gB (iZ (e2 cD (ai 1) (eC (.int 1)))) (eY 2 (b3 (aY 0) (b3 (aY 1) eZ))) (mm (ma (e2 cD (ai 1) (eC (.int 2))))) (ai 0) [(Str.ofString "place"),(Str.ofString "gate")] []))))))
noncomputable def cg:List V3→aN→R3 V3:=kJ dG gI
noncomputable def yd:List V3→aN→R3 V3:=lU dG gI
theorem dJ{P:Program}{w:World}{K:PySem.W.Frag}{mg:Str→Option Value}{base:Heap}{cl:Nat→Addr}(T:Tp K mg cl)(h:yS K (cl 1) (Str.ofString "__init__") (Str.ofString "Trial.__init__") bj)(XK_Bench___init__:nR P w K mg base cl 3 0 (Str.ofString "Bench") 1 cf)(XP_Bench_readings:dD P w K mg base cl 5 0 (Str.ofString "readings") 1 bN):nR P w K mg base cl 6 1 (Str.ofString "Trial") 1 cg:=by
 obtain⟨f,fd,F,hm⟩:=h
 exact⟨f,fd,_,hm,bM (k:=5) m_.2 f9.2 F ox (fun cdv A outer s H E hr=>(av (mJ T.C_Trial T.N_Trial_bench (aI 0) (pI XK_Bench___init__ hr (by decide) rfl (ae (aj (aa 1)) aC) (af aA))) (av (mJ T.C_Trial T.N_Trial_plain (aI 0) (gr XP_Bench_readings hr (by decide) (fG T.C_Trial T.N_Trial_bench (aI 0)) (ae (aj (cx ak)) aC) (af aA))) (aK (mJ T.C_Trial T.N_Trial_unsure (aI 0) (aj (cU (iO rfl (cq.of (own:=[(Str.ofString "place"),(Str.ofString "gate")]) (kp:=[]) (kn:=[]) (sc:=f9.1) (N:=dG) rfl rfl (by decide+kernel)) (lH (aJ (aa 1) ah (fun _ _=>rfl)) rfl T.z_enumerate) (fun _ _ _=>(kU rfl (dC (b_ (show List.Nodup [(Str.ofString "place"),(Str.ofString "gate")] from by decide+kernel) rfl (Or.inl rfl)) (dC (b_ (show List.Nodup [(Str.ofString "place"),(Str.ofString "gate")] from by decide+kernel) rfl (Or.inl rfl)) jT)))) (fun _ _ _=>(vU (yE (xC (aJ (aa 1) ah (fun _ _=>rfl)))))) (fun _ _ _=>(aa 0)))))))))),T.M_Trial,F.binds fun _ _ _ _ _ _ us hl=>match us,hl with | [_,_],_=>rfl⟩
noncomputable abbrev a_:Stmt:=inClass (top 19) 1
noncomputable abbrev ei:List Str:=[(Str.ofString "self"),(Str.ofString "turned"),(Str.ofString "level"),(Str.ofString "mask"),(Str.ofString "before"),(Str.ofString "after")]
noncomputable def mK:{b:List Stmt // ao a_=b}:=by
 have e:ao a_=ao a_:=rfl
 conv at e=>rhs;whnf
 exact⟨_,e⟩
noncomputable def iG:{b:Scope // ag a_=b}:=by
 have e:ag a_=ag a_:=rfl
 conv at e=>rhs;whnf
 exact⟨_,e⟩
theorem cL:aV ei [(Str.ofString "self"),(Str.ofString "turned"),(Str.ofString "level")] iG.1:=⟨rfl,rfl,rfl,by decide+kernel,rfl,by decide+kernel,by decide+kernel⟩
noncomputable def hV:FZ:=(xW (bP (b2 jC (ai 2) (eC (.str (Str.ofString "safe"))))) (cn 3 (xP (e2 Cr (e2 Cr (ai 3) (e2 zQ (e2 cD (ai 4) (eC (.int 0))) (e2 cD (ai 5) (eC (.int 1))))) (e2 zQ (e2 cD (ai 4) (eC (.int 1))) (e2 cD (ai 5) (eC (.int 0))))))) (cn 3 (xP (e2 Cr (e2 Cr (ai 3) (e2 zw (e2 cD (ai 4) (eC (.int 0))) (e2 cD (ai 5) (eC (.int 0))))) (e2 zw (e2 cD (ai 4) (eC (.int 1))) (e2 cD (ai 5) (eC (.int 1))))))))
noncomputable def gc:FZ:=(bu (cn 3 (xP (eC (.int 0)))) (bu (jt (GL (lq 1 (Str.ofString "plain") (bC 0)) (jN 0 (Str.ofString "readings") bN (lq 1 (Str.ofString "bench") (bC 0)) (aw (xP (ai 1)) bH))) (yy 2 (uZ (i7 4) (uZ (i7 5) zp))) hV) (gK (xP (ai 3)))))
noncomputable def iB:List V3→aN→R3 V3:=kJ ei gc
noncomputable def bX:List V3→aN→R3 V3:=lU ei gc
theorem dt{P:Program}{w:World}{K:PySem.W.Frag}{mg:Str→Option Value}{base:Heap}{cl:Nat→Addr}(T:Tp K mg cl)(h:mG K (cl 1) (Str.ofString "breaks_at") (Str.ofString "Trial.breaks_at") a_)(XP_Bench_readings:dD P w K mg base cl 5 0 (Str.ofString "readings") 1 bN):dD P w K mg base cl 6 1 (Str.ofString "breaks_at") 2 iB:=by
 obtain⟨f,fd,F,hm⟩:=h
 exact⟨f,fd,_,T.C_Trial,hm,bM (k:=5) mK.2 iG.2 F cL (fun cdv A outer s H E hr=>(av (aW cL.nd rfl (Or.inl rfl) (aj ah)) (av (d3 PassesOwn.never rfl (CU (fG T.C_Trial T.N_Trial_plain (aI 0)) (gr XP_Bench_readings hr (by decide) (fG T.C_Trial T.N_Trial_bench (aI 0)) (ae (aj (aa 1)) aC) (af aA)) rfl T.z_zip) (pF rfl (fV (bg cL.nd rfl (Or.inl rfl)) (fV (bg cL.nd rfl (Or.inl rfl)) ny))) (aK (l0 (gm (bJ (jR hr.units) (aa 2) bA (ck _))) (aK (aW cL.nd rfl (Or.inl rfl) (aj (aO vy (aO vy (aa 3) (aO uL (aJ (aa 4) ah (fun _ _=>rfl)) (aJ (aa 5) ah (fun _ _=>rfl)))) (aO uL (aJ (aa 4) ah (fun _ _=>rfl)) (aJ (aa 5) ah (fun _ _=>rfl))))))) (aK (aW cL.nd rfl (Or.inl rfl) (aj (aO vy (aO vy (aa 3) (aO tR (aJ (aa 4) ah (fun _ _=>rfl)) (aJ (aa 5) ah (fun _ _=>rfl)))) (aO tR (aJ (aa 4) ah (fun _ _=>rfl)) (aJ (aa 5) ah (fun _ _=>rfl)))))))))) (aK (cO (aj (aa 3))))))),F.binds fun _ _ _ _ _ _ us hl=>match us,hl with | [_,_,_],_=>rfl⟩
noncomputable abbrev aZ:Stmt:=inClass (top 15) 4
noncomputable abbrev dj:List Str:=[(Str.ofString "self"),(Str.ofString "mask")]
noncomputable def md:{b:List Stmt // ao aZ=b}:=by
 have e:ao aZ=ao aZ:=rfl
 conv at e=>rhs;whnf
 exact⟨_,e⟩
noncomputable def fL:{b:Scope // ag aZ=b}:=by
 have e:ag aZ=ag aZ:=rfl
 conv at e=>rhs;whnf
 exact⟨_,e⟩
theorem m8:aV dj [(Str.ofString "self"),(Str.ofString "mask")] fL.1:=⟨rfl,rfl,rfl,by decide+kernel,rfl,by decide+kernel,by decide+kernel⟩
noncomputable def fZ:FZ:=(gK (gS (k8 (lq 0 (Str.ofString "many_inputs") (bC 0))) (i7 0) (bP (b2 jC (aP eL (au (ai 1) (au (ai 0) aL))) (eC (.int 1)))) (xP (ai 0)) [(Str.ofString "number")] [1]))
noncomputable def iX:List V3→aN→R3 V3:=kJ dj fZ
noncomputable def bW:List V3→aN→R3 V3:=lU dj fZ
theorem dg{P:Program}{w:World}{K:PySem.W.Frag}{mg:Str→Option Value}{base:Heap}{cl:Nat→Addr}(T:Tp K mg cl)(h:mG K (cl 0) (Str.ofString "inputs_in") (Str.ofString "Bench.inputs_in") aZ)(C_bit_at:Callee P w K mg base 1 (Str.ofString "bit_at") 2 eL):dD P w K mg base cl 2 0 (Str.ofString "inputs_in") 1 iX:=by
 obtain⟨f,fd,F,hm⟩:=h
 exact⟨f,fd,_,T.C_Bench,hm,bM (k:=1) md.2 fL.2 F m8 (fun cdv A outer s H E hr=>(aK (cO (lI rfl (cq.of (own:=[(Str.ofString "number")]) (kp:=[1]) (kn:=[(Str.ofString "mask")]) (sc:=fL.1) (N:=dj) rfl rfl (by decide+kernel)) (fF (fG T.C_Bench T.N_Bench_many_inputs (aI 0)) rfl T.z_range) (fun _ _ _=>(bg (show List.Nodup [(Str.ofString "number"),(Str.ofString "mask")] from by decide+kernel) rfl (Or.inl rfl))) (fun _ _ _=>(nB (gm (bJ (jR hr.units) (bR C_bit_at hr (by decide) rfl (ab (aa 1) (ab (aa 0) ak)) (aR (aR cw))) ah (ck _))))) (fun _ _ _=>(aj (aa 0))))))),F.binds fun _ _ _ _ _ _ us hl=>match us,hl with | [_,_],_=>rfl⟩
noncomputable abbrev ie:Stmt:=top 20
noncomputable abbrev pP:List Str:=[(Str.ofString "net"),(Str.ofString "many"),(Str.ofString "level"),(Str.ofString "trial"),(Str.ofString "size"),(Str.ofString "turned"),(Str.ofString "mask")]
noncomputable def AJ:{b:List Stmt // ao ie=b}:=by
 have e:ao ie=ao ie:=rfl
 conv at e=>rhs;whnf
 exact⟨_,e⟩
noncomputable def vc:{b:Scope // ag ie=b}:=by
 have e:ag ie=ag ie:=rfl
 conv at e=>rhs;whnf
 exact⟨_,e⟩
theorem mV:aV pP [(Str.ofString "net"),(Str.ofString "many"),(Str.ofString "level")] vc.1:=⟨rfl,rfl,rfl,by decide+kernel,rfl,by decide+kernel,by decide+kernel⟩
noncomputable def n9:FZ:=(bu (cn 6 (jN 1 (Str.ofString "breaks_at") bX (bC 3) (aw (xP (ai 5)) (aw (xP (ai 2)) bH)))) (xW (bP (b2 rn (ai 6) (eC (.int 0)))) (gK (ve (aw (xP (eC (.str (Str.ofString "breaks")))) (aw (xP (ai 5)) (aw (Cw (jN 0 (Str.ofString "inputs_in") bW (lq 1 (Str.ofString "bench") (bC 3)) (aw (xP (ai 6)) bH)) (xP (eC (.int 0)))) bH))))) qz))
noncomputable def rW:FZ:=(jt (vd (k5 (dH 4) (aw (lq 1 (Str.ofString "unsure") (bC 3)) (aw (xP (ai 4)) bH)))) (i7 5) n9)
noncomputable def tT:FZ:=(bu (cn 3 (si 1 cg (aw (xP (ai 0)) bH))) (bu (jt (iP (ee (e2 e_ (ai 1) (eC (.int 1))))) (i7 4) rW) (gK (xP (dU (au (eC (.str (Str.ofString "bears"))) aL))))))
noncomputable def uj:List V3→aN→R3 V3:=kJ pP tT
noncomputable def lu:List V3→aN→R3 V3:=lU pP tT
theorem Dc{P:Program}{w:World}{K:PySem.W.Frag}{mg:Str→Option Value}{base:Heap}{cl:Nat→Addr}(T:Tp K mg cl)(h:Def K mg (Str.ofString "bears") ie)(C_choices:Callee P w K mg base 5 (Str.ofString "choices") 2 (dH 4))(XK_Trial___init__:nR P w K mg base cl 6 1 (Str.ofString "Trial") 1 cg)(XP_Trial_breaks_at:dD P w K mg base cl 6 1 (Str.ofString "breaks_at") 2 bX)(XP_Bench_inputs_in:dD P w K mg base cl 2 0 (Str.ofString "inputs_in") 1 bW):az P w K mg base cl 8 (Str.ofString "bears") 3 uj:=by
 obtain⟨f,fd,F,hm⟩:=h
 exact⟨f,fd,_,bM (k:=7) AJ.2 vc.2 F mV (fun cdv A outer s H E hr=>(av (aW mV.nd rfl (Or.inl rfl) (pI XK_Trial___init__ hr (by decide) rfl (ae (aj (aa 0)) aC) (af aA))) (av (d3 PassesOwn.never rfl (cR (cG (aO hJ (aa 1) ah) rfl T.z_range)) (bg mV.nd rfl (Or.inl rfl)) (aK (d3 PassesOwn.never rfl (m5 (uO C_choices hr (by decide) rfl (ae (fG T.C_Trial T.N_Trial_unsure (aI 3)) (ae (aj (aa 4)) aC)) (af (af aA)))) (bg mV.nd rfl (Or.inl rfl)) (av (aW mV.nd rfl (Or.inl rfl) (gr XP_Trial_breaks_at hr (by decide) (aI 3) (ae (aj (aa 5)) (ae (aj (aa 2)) aC)) (af (af aA)))) (aK (l0 (gm (bJ (Aa hr.units) (aa 6) ah (ck _))) (aK (cO (om (ae (aj bA) (ae (aj (aa 5)) (ae (qB (gr XP_Bench_inputs_in hr (by decide) (fG T.C_Trial T.N_Trial_bench (aI 3)) (ae (aj (aa 6)) aC) (af aA)) (aj ah) (fun _ _=>rfl)) aC)))))) ke)))))) (aK (cO (aj (cx (ab bA ak)))))))),hm,F.kp,F.binds fun _ _ _ _ _ _ us hl=>match us,hl with | [_,_,_],_=>rfl⟩
noncomputable abbrev eO:Stmt:=top 21
noncomputable abbrev lG:List Str:=[(Str.ofString "net"),(Str.ofString "trial"),(Str.ofString "found"),(Str.ofString "place"),(Str.ofString "wrong"),(Str.ofString "none")]
noncomputable def wU:{b:List Stmt // ao eO=b}:=by
 have e:ao eO=ao eO:=rfl
 conv at e=>rhs;whnf
 exact⟨_,e⟩
noncomputable def p8:{b:Scope // ag eO=b}:=by
 have e:ag eO=ag eO:=rfl
 conv at e=>rhs;whnf
 exact⟨_,e⟩
theorem iq:aV lG [(Str.ofString "net")] p8.1:=⟨rfl,rfl,rfl,by decide+kernel,rfl,by decide+kernel,by decide+kernel⟩
noncomputable def oS:FZ:=(bu (cn 4 (jN 1 (Str.ofString "breaks_at") bX (bC 1) (aw (xP (dU (au (ai 3) aL))) (aw (xP (eC (.str (Str.ofString "safe")))) bH)))) (bu (cn 5 (x2 zw (jN 1 (Str.ofString "breaks_at") bX (bC 1) (aw (xP (dU (au (ai 3) aL))) (aw (xP (eC (.str (Str.ofString "right")))) bH))) (xP (ai 4)))) (il 2 (ve (aw (xP (ai 3)) (aw (k5 cP (aw (jN 0 (Str.ofString "inputs_in") bW (lq 1 (Str.ofString "bench") (bC 1)) (aw (xP (ai 4)) bH)) bH)) (aw (k5 cP (aw (jN 0 (Str.ofString "inputs_in") bW (lq 1 (Str.ofString "bench") (bC 1)) (aw (xP (ai 5)) bH)) bH)) bH)))))))
noncomputable def n8:FZ:=(bu (cn 1 (si 1 cg (aw (xP (ai 0)) bH))) (bu (cn 2 (kY (dA aL))) (bu (jt (vd (lq 1 (Str.ofString "unsure") (bC 1))) (i7 3) oS) (gK (bC 2)))))
noncomputable def ku:List V3→aN→R3 V3:=kJ lG n8
noncomputable def mM:List V3→aN→R3 V3:=lU lG n8
theorem y9{P:Program}{w:World}{K:PySem.W.Frag}{mg:Str→Option Value}{base:Heap}{cl:Nat→Addr}(T:Tp K mg cl)(h:Def K mg (Str.ofString "matters") eO)(XK_Trial___init__:nR P w K mg base cl 6 1 (Str.ofString "Trial") 1 cg)(XP_Trial_breaks_at:dD P w K mg base cl 6 1 (Str.ofString "breaks_at") 2 bX)(XP_Bench_inputs_in:dD P w K mg base cl 2 0 (Str.ofString "inputs_in") 1 bW):az P w K mg base cl 8 (Str.ofString "matters") 1 ku:=by
 obtain⟨f,fd,F,hm⟩:=h
 exact⟨f,fd,_,bM (k:=7) wU.2 p8.2 F iq (fun cdv A outer s H E hr=>(av (aW iq.nd rfl (Or.inl rfl) (pI XK_Trial___init__ hr (by decide) rfl (ae (aj (aa 0)) aC) (af aA))) (av (aW iq.nd rfl (Or.inl rfl) (fK (bV ak))) (av (d3 PassesOwn.never rfl (m5 (fG T.C_Trial T.N_Trial_unsure (aI 1))) (bg iq.nd rfl (Or.inl rfl)) (av (aW iq.nd rfl (Or.inl rfl) (gr XP_Trial_breaks_at hr (by decide) (aI 1) (ae (aj (cx (ab (aa 3) ak))) (ae (aj bA) aC)) (af (af aA)))) (av (aW iq.nd rfl (Or.inl rfl) (oJ tR (gr XP_Trial_breaks_at hr (by decide) (aI 1) (ae (aj (cx (ab (aa 3) ak))) (ae (aj bA) aC)) (af (af aA))) (aj (aa 4)))) (aK (eB rfl (Or.inl rfl) (om (ae (aj (aa 3)) (ae (vL dv rfl T.z_len PySem.boot_len (ae (gr XP_Bench_inputs_in hr (by decide) (fG T.C_Trial T.N_Trial_bench (aI 1)) (ae (aj (aa 4)) aC) (af aA)) aC)) (ae (vL dv rfl T.z_len PySem.boot_len (ae (gr XP_Bench_inputs_in hr (by decide) (fG T.C_Trial T.N_Trial_bench (aI 1)) (ae (aj (aa 5)) aC) (af aA)) aC)) aC))))))))) (aK (cO (aI 2))))))),hm,F.kp,F.binds fun _ _ _ _ _ _ us hl=>match us,hl with | [_],_=>rfl⟩
noncomputable abbrev cI:Stmt:=top 23
noncomputable abbrev jq:List Str:=[(Str.ofString "script"),(Str.ofString "k")]
noncomputable def pX:{b:List Stmt // ao cI=b}:=by
 have e:ao cI=ao cI:=rfl
 conv at e=>rhs;whnf
 exact⟨_,e⟩
noncomputable def kZ:{b:Scope // ag cI=b}:=by
 have e:ag cI=ag cI:=rfl
 conv at e=>rhs;whnf
 exact⟨_,e⟩
theorem rp:aV jq [(Str.ofString "script"),(Str.ofString "k")] kZ.1:=⟨rfl,rfl,rfl,by decide+kernel,rfl,by decide+kernel,by decide+kernel⟩
noncomputable def ju:FS:=(el (pj (b2 zX (ai 1) (aP cP (au (ai 0) aL))) (er (e2 cD (ai 0) (ai 1))) jz) (er (eC (.int 0))))
noncomputable def d8:List D→R D:=nP jq ju
theorem rC{P:Program}{w:World}{K:PySem.W.Frag}{mg:Str→Option Value}{base:Heap}{cl:Nat→Addr}(T:Tp K mg cl)(h:Def K mg (Str.ofString "_law_cell_at") cI):Callee P w K mg base 1 (Str.ofString "_law_cell_at") 2 d8:=by
 obtain⟨f,fd,F,hm⟩:=h
 exact⟨f,fd,_,cZ (k:=0) pX.2 kZ.2 F rp (fun cdv A outer s H E hr=>(bQ (gP (bJ Hu (aa 1) (aX dv rfl T.z_len PySem.boot_len (ab (aa 0) ak)) (ck _)) (bx (bZ (aJ (aa 0) (aa 1) (fun _ _=>rfl)))) fu) (bx (bZ ah)))),hm,F.kp,F.binds fun _ _ _ _ _ _ us hl=>match us,hl with | [_,_],_=>rfl⟩
noncomputable abbrev dR:Stmt:=top 24
noncomputable abbrev j0:List Str:=[(Str.ofString "cell")]
noncomputable def uX:{b:List Stmt // ao dR=b}:=by
 have e:ao dR=ao dR:=rfl
 conv at e=>rhs;whnf
 exact⟨_,e⟩
noncomputable def oQ:{b:Scope // ag dR=b}:=by
 have e:ag dR=ag dR:=rfl
 conv at e=>rhs;whnf
 exact⟨_,e⟩
theorem wK:aV j0 [(Str.ofString "cell")] oQ.1:=⟨rfl,rfl,rfl,by decide+kernel,rfl,by decide+kernel,by decide+kernel⟩
noncomputable def mH:FZ:=(gK (kY (dA (au (aP cAbs (au (ai 0) aL)) (au (e2 jo (e2 mw (e2 e_ (e2 jo (ai 0) (eC (.int 2147483647))) (eC (.int 1))) (eC (.int 742938285))) (eC (.int 2147483647))) aL)))))
noncomputable def eH:List V3→aN→R3 V3:=kJ j0 mH
noncomputable def vJ:List V3→aN→R3 V3:=lU j0 mH
theorem we{P:Program}{w:World}{K:PySem.W.Frag}{mg:Str→Option Value}{base:Heap}{cl:Nat→Addr}(T:Tp K mg cl)(h:Def K mg (Str.ofString "_law_reel") dR):az P w K mg base cl 1 (Str.ofString "_law_reel") 1 eH:=by
 obtain⟨f,fd,F,hm⟩:=h
 exact⟨f,fd,_,bM (k:=0) uX.2 oQ.2 F wK (fun cdv A outer s H E hr=>(aK (cO (fK (bV (ab (aX HF rfl T.z_abs PyProof.Rows.boot_abs (ab (aa 0) ak)) (ab (aO nS (aO vN (aO hJ (aO nS (aa 0) ah) ah) ah) ah) ak))))))),hm,F.kp,F.binds fun _ _ _ _ _ _ us hl=>match us,hl with | [_],_=>rfl⟩
noncomputable abbrev dW:Stmt:=top 25
noncomputable abbrev ko:List Str:=[(Str.ofString "reel"),(Str.ofString "many"),(Str.ofString "found"),(Str.ofString "stir")]
noncomputable def uE:{b:List Stmt // ao dW=b}:=by
 have e:ao dW=ao dW:=rfl
 conv at e=>rhs;whnf
 exact⟨_,e⟩
noncomputable def oW:{b:Scope // ag dW=b}:=by
 have e:ag dW=ag dW:=rfl
 conv at e=>rhs;whnf
 exact⟨_,e⟩
theorem me:aV ko [(Str.ofString "reel"),(Str.ofString "many")] oW.1:=⟨rfl,rfl,rfl,by decide+kernel,rfl,by decide+kernel,by decide+kernel⟩
noncomputable def mC:FZ:=(bu (xW (bT (b2 zT (e2 cD (ai 0) (eC (.int 0))) (e2 pR (eC (.int 10)) (eC (.int 18))))) (bu (cn 2 (xT (e2 jo (e2 cD (ai 0) (eC (.int 0))) (ai 1)))) (bu (wD (bC 0) (xP (eC (.int 0))) (xT (e2 sH (e2 cD (ai 0) (eC (.int 0))) (ai 1)))) (gK (xP (ai 2))))) qz) (bu (wD (bC 0) (xP (eC (.int 1))) (xT (e2 jo (e2 e_ (e2 mw (e2 cD (ai 0) (eC (.int 1))) (eC (.int 48271))) (eC (.int 11))) (eC (.int 2147483647))))) (bu (cn 3 (xT (e2 jo (e2 mw (e2 cD (ai 0) (eC (.int 1))) (e2 cD (ai 0) (eC (.int 1)))) (eC (.int 2147483629))))) (gK (xP (e2 jo (e2 sH (e2 jo (e2 mw (ai 3) (eC (.int 69621))) (eC (.int 2147483587))) (eC (.int 8))) (ai 1)))))))
noncomputable def oX:List V3→aN→R3 V3:=kJ ko mC
noncomputable def aF:List V3→aN→R3 V3:=lU ko mC
theorem xn{P:Program}{w:World}{K:PySem.W.Frag}{mg:Str→Option Value}{base:Heap}{cl:Nat→Addr}(T:Tp K mg cl)(h:Def K mg (Str.ofString "_law_take") dW):az P w K mg base cl 1 (Str.ofString "_law_take") 2 oX:=by
 obtain⟨f,fd,F,hm⟩:=h
 exact⟨f,fd,_,bM (k:=0) uE.2 oW.2 F me (fun cdv A outer s H E hr=>(av (l0 (lr (bJ HZ (aJ (aa 0) ah (fun _ _=>rfl)) (aO Eg ah ah) (ck _))) (av (aW me.nd rfl (Or.inl rfl) (cF (aO nS (aJ (aa 0) ah (fun _ _=>rfl)) (aa 1)))) (av (tI (cF (aO wH (aJ (aa 0) ah (fun _ _=>rfl)) (aa 1))) (sT (PX.go (aI 0)) (PX.go (aj ah)) set_list)) (aK (cO (aj (aa 2)))))) ke) (av (tI (cF (aO nS (aO hJ (aO vN (aJ (aa 0) ah (fun _ _=>rfl)) ah) ah) ah)) (sT (PX.go (aI 0)) (PX.go (aj ah)) set_list)) (av (aW me.nd rfl (Or.inl rfl) (cF (aO nS (aO vN (aJ (aa 0) ah (fun _ _=>rfl)) (aJ (aa 0) ah (fun _ _=>rfl))) ah))) (aK (cO (aj (aO nS (aO wH (aO nS (aO vN (aa 3) ah) ah) ah) (aa 1))))))))),hm,F.kp,F.binds fun _ _ _ _ _ _ us hl=>match us,hl with | [_,_],_=>rfl⟩
noncomputable abbrev dm:Stmt:=top 26
noncomputable abbrev je:List Str:=[(Str.ofString "reel"),(Str.ofString "many"),(Str.ofString "letters"),(Str.ofString "words"),(Str.ofString "names"),(Str.ofString "k"),(Str.ofString "name"),(Str.ofString "j")]
noncomputable def t4:{b:List Stmt // ao dm=b}:=by
 have e:ao dm=ao dm:=rfl
 conv at e=>rhs;whnf
 exact⟨_,e⟩
noncomputable def m7:{b:Scope // ag dm=b}:=by
 have e:ag dm=ag dm:=rfl
 conv at e=>rhs;whnf
 exact⟨_,e⟩
theorem df:aV je [(Str.ofString "reel"),(Str.ofString "many")] m7.1:=⟨rfl,rfl,rfl,by decide+kernel,rfl,by decide+kernel,by decide+kernel⟩
noncomputable def lT:FZ:=(cn 6 (x2 e_ (xP (ai 6)) (Cw (xP (ai 2)) (bO aF (aw (bC 0) (aw (xP (eC (.int 26))) bH))))))
noncomputable def gQ:FZ:=(cn 6 (xP (e2 e_ (wj (ai 6) kB (hW (F0 (eC (.int 1))))) (e2 cD (ai 2) (e2 jo (e2 e_ (sf "str" x5 (ai 2) (au (e2 cD (ai 6) (F0 (eC (.int 1)))) aL)) (eC (.int 1))) (eC (.int 26)))))))
noncomputable def jv:FZ:=(bu (cn 6 (Cw (xP (e2 e_ (eNew (dA (au (eC (.str (Str.ofString ""))) (au (eC (.str (Str.ofString ""))) (au (eC (.str (Str.ofString "zz"))) (au (eC (.str (Str.ofString "qrst"))) aL)))))) (ai 3))) (bO aF (aw (bC 0) (aw (xP (eC (.int 13))) bH))))) (bu (jt (k8 (x2 e_ (xP (eC (.int 1))) (bO aF (aw (bC 0) (aw (xP (eC (.int 4))) bH))))) (i7 7) lT) (bu (xt 1000 (bT (xw (b2 qM (ai 6) (ai 4)) (b2 qM (ai 6) (ai 3)))) gQ) (il 4 (xP (ai 6))))))
noncomputable def kW:FZ:=(bu (cn 2 (xP (eC (.str (Str.ofString "abcdefghijklmnopqrstuvwxyz"))))) (bu (cn 3 (xP (eNew (dA (au (eC (.str (Str.ofString "in"))) (au (eC (.str (Str.ofString "gate"))) (au (eC (.str (Str.ofString "sure"))) (au (eC (.str (Str.ofString "out"))) (au (eC (.str (Str.ofString "not"))) (au (eC (.str (Str.ofString "and"))) (au (eC (.str (Str.ofString "or"))) (au (eC (.str (Str.ofString "xor"))) (au (eC (.str (Str.ofString "vote"))) aL))))))))))))) (bu (cn 4 (kY (dA aL))) (bu (jt (iP (ee (ai 1))) (i7 5) jv) (gK (bC 4))))))
noncomputable def nC:List V3→aN→R3 V3:=kJ je kW
noncomputable def gn:List V3→aN→R3 V3:=lU je kW
theorem vb{P:Program}{w:World}{K:PySem.W.Frag}{mg:Str→Option Value}{base:Heap}{cl:Nat→Addr}(T:Tp K mg cl)(h:Def K mg (Str.ofString "_law_names") dm)(XP_law_take:az P w K mg base cl 1 (Str.ofString "_law_take") 2 aF):az P w K mg base cl 2 (Str.ofString "_law_names") 2 nC:=by
 obtain⟨f,fd,F,hm⟩:=h
 exact⟨f,fd,_,bM (k:=1) t4.2 m7.2 F df (fun cdv A outer s H E hr=>(av (aW df.nd rfl (Or.inl rfl) (aj bA)) (av (aW df.nd rfl (Or.inl rfl) (aj (cU (bV (ab bA (ab bA (ab bA (ab bA (ab bA (ab bA (ab bA (ab bA (ab bA ak))))))))))))) (av (aW df.nd rfl (Or.inl rfl) (fK (bV ak))) (av (d3 PassesOwn.never rfl (cR (cG (aa 1) rfl T.z_range)) (bg df.nd rfl (Or.inl rfl)) (av (aW df.nd rfl (Or.inl rfl) (qB (aj (aO hJ (cU (bV (ab bA (ab bA (ab bA (ab bA ak)))))) (aa 3))) (ba XP_law_take hr (by decide) rfl (ae (aI 0) (ae (aj ah) aC)) (af (af aA))) (fun _ _=>rfl))) (av (d3 PassesOwn.never rfl (fF (oJ hJ (aj ah) (ba XP_law_take hr (by decide) rfl (ae (aI 0) (ae (aj ah) aC)) (af (af aA)))) rfl T.z_range) (bg df.nd rfl (Or.inl rfl)) (aK (aW df.nd rfl (Or.inl rfl) (oJ hJ (aj (aa 6)) (qB (aj (aa 2)) (ba XP_law_take hr (by decide) rfl (ae (aI 0) (ae (aj ah) aC)) (af (af aA))) (fun _ _=>rfl)))))) (av (Bf 1000 PassesOwn.never (lr (tq (Dz (bJ Dm (aa 6) (aa 4) (by with_unfolding_all rfl)) (Ca (bJ Dm (aa 6) (aa 3) (by with_unfolding_all rfl)))))) (aK (aW df.nd rfl (Or.inl rfl) (aj (aO hJ (wM (aa 6) vR (nU (x_ ah))) (aJ (aa 2) (aO nS (aO hJ (BU (aa 2) (ab (aJ (aa 6) (x_ ah) (fun _ _=>rfl)) ak)) ah) ah) (fun _ _=>rfl))))))) (aK (eB rfl (Or.inl rfl) (aj (aa 6)))))))) (aK (cO (aI 4)))))))),hm,F.kp,F.binds fun _ _ _ _ _ _ us hl=>match us,hl with | [_,_],_=>rfl⟩
noncomputable abbrev dX:Stmt:=top 27
noncomputable abbrev j6:List Str:=[(Str.ofString "reel"),(Str.ofString "kinds"),(Str.ofString "most_sure"),(Str.ofString "kind"),(Str.ofString "many"),(Str.ofString "wires"),(Str.ofString "k"),(Str.ofString "back"),(Str.ofString "wire")]
noncomputable def ur:{b:List Stmt // ao dX=b}:=by
 have e:ao dX=ao dX:=rfl
 conv at e=>rhs;whnf
 exact⟨_,e⟩
noncomputable def oK:{b:Scope // ag dX=b}:=by
 have e:ag dX=ag dX:=rfl
 conv at e=>rhs;whnf
 exact⟨_,e⟩
theorem eu:aV j6 [(Str.ofString "reel"),(Str.ofString "kinds"),(Str.ofString "most_sure")] oK.1:=⟨rfl,rfl,rfl,by decide+kernel,rfl,by decide+kernel,by decide+kernel⟩
noncomputable def nA:FZ:=(bu (cn 7 (bO aF (aw (bC 0) (aw (xP (eC (.int 2))) bH)))) (bu (cn 8 (bO aF (aw (bC 0) (aw (xT (aP cP (au (ai 1) aL))) bH)))) (bu (xW (bP (b2 jC (ai 7) (eC (.int 1)))) (cn 8 (xT (e2 jG (e2 jG (aP cP (au (ai 1) aL)) (eC (.int 1))) (e2 jo (ai 8) (aP vf (au (aP cP (au (ai 1) aL)) (au (eC (.int 4)) aL))))))) qz) (il 5 (xP (ai 8))))))
noncomputable def l8:FZ:=(bu (cn 3 (Cw (xP (eNew (dA (au (eC (.str (Str.ofString "not"))) (au (eC (.str (Str.ofString "and"))) (au (eC (.str (Str.ofString "or"))) (au (eC (.str (Str.ofString "xor"))) (au (eC (.str (Str.ofString "vote"))) (au (eC (.str (Str.ofString "xor"))) (au (eC (.str (Str.ofString "and"))) aL)))))))))) (bO aF (aw (bC 0) (aw (xP (eC (.int 7))) bH))))) (bu (cn 4 (xP (Fv [((Sum.inr (Str.ofString "not"):Key),V.int 1),((Sum.inr (Str.ofString "vote"):Key),V.int 3)] (ai 3) (eC (.int 2))))) (bu (cn 5 (kY (dA aL))) (bu (jt (iP (ee (ai 4))) (i7 6) nA) (gK (ve (aw (xP (ai 3)) (aw (xT (aP fH (au (ai 5) aL))) (aw (x2 zX (bO aF (aw (bC 0) (aw (xP (eC (.int 4))) bH))) (xP (ai 2))) bH)))))))))
noncomputable def o8:List V3→aN→R3 V3:=kJ j6 l8
noncomputable def fX:List V3→aN→R3 V3:=lU j6 l8
theorem wg{P:Program}{w:World}{K:PySem.W.Frag}{mg:Str→Option Value}{base:Heap}{cl:Nat→Addr}(T:Tp K mg cl)(h:Def K mg (Str.ofString "_law_gate") dX)(XP_law_take:az P w K mg base cl 1 (Str.ofString "_law_take") 2 aF):az P w K mg base cl 2 (Str.ofString "_law_gate") 3 o8:=by
 obtain⟨f,fd,F,hm⟩:=h
 exact⟨f,fd,_,bM (k:=1) ur.2 oK.2 F eu (fun cdv A outer s H E hr=>(av (aW eu.nd rfl (Or.inl rfl) (qB (aj (cU (bV (ab bA (ab bA (ab bA (ab bA (ab bA (ab bA (ab bA ak)))))))))) (ba XP_law_take hr (by decide) rfl (ae (aI 0) (ae (aj ah) aC)) (af (af aA))) (fun _ _=>rfl))) (av (aW eu.nd rfl (Or.inl rfl) (aj (CQ (Hh hr) (nu qD qi (nu qD qi yN)) rfl rfl (by simp) (fun _ _ _ h=>h) (by decide) (aa 3) ah ⟨rfl,rfl,rfl,rfl⟩ (Dl (nu qD qi (nu qD qi yN)) rfl rfl (by simp) (by decide))))) (av (aW eu.nd rfl (Or.inl rfl) (fK (bV ak))) (av (d3 PassesOwn.never rfl (cR (cG (aa 4) rfl T.z_range)) (bg eu.nd rfl (Or.inl rfl)) (av (aW eu.nd rfl (Or.inl rfl) (ba XP_law_take hr (by decide) rfl (ae (aI 0) (ae (aj ah) aC)) (af (af aA)))) (av (aW eu.nd rfl (Or.inl rfl) (ba XP_law_take hr (by decide) rfl (ae (aI 0) (ae (cF (aX dv rfl T.z_len PySem.boot_len (ab (aa 1) ak))) aC)) (af (af aA)))) (av (l0 (gm (bJ (jR hr.units) (aa 7) ah (ck _))) (aK (aW eu.nd rfl (Or.inl rfl) (cF (aO oZ (aO oZ (aX dv rfl T.z_len PySem.boot_len (ab (aa 1) ak)) ah) (aO nS (aa 8) (aX (Fz rfl) rfl T.z_min PyProof.Rows.boot_min (ab (aX dv rfl T.z_len PySem.boot_len (ab (aa 1) ak)) (ab ah ak)))))))) ke) (aK (eB rfl (Or.inl rfl) (aj (aa 8)))))))) (aK (cO (om (ae (aj (aa 3)) (ae (cF (kf pL rfl T.z_tuple PyProof.Rows.boot_tuple (ab (aa 5) ak))) (ae (s_ Hu (ba XP_law_take hr (by decide) rfl (ae (aI 0) (ae (aj ah) aC)) (af (af aA))) (aj (aa 2)) (ck _)) aC))))))))))),hm,F.kp,F.binds fun _ _ _ _ _ _ us hl=>match us,hl with | [_,_,_],_=>rfl⟩
noncomputable abbrev dn:Stmt:=top 28
noncomputable abbrev gT:List Str:=[(Str.ofString "reel"),(Str.ofString "gate"),(Str.ofString "kinds"),(Str.ofString "wires"),(Str.ofString "wire"),(Str.ofString "same")]
noncomputable def tJ:{b:List Stmt // ao dn=b}:=by
 have e:ao dn=ao dn:=rfl
 conv at e=>rhs;whnf
 exact⟨_,e⟩
noncomputable def kh:{b:Scope // ag dn=b}:=by
 have e:ag dn=ag dn:=rfl
 conv at e=>rhs;whnf
 exact⟨_,e⟩
theorem jg:aV gT [(Str.ofString "reel"),(Str.ofString "gate"),(Str.ofString "kinds")] kh.1:=⟨rfl,rfl,rfl,by decide+kernel,rfl,by decide+kernel,by decide+kernel⟩
noncomputable def l4:FZ:=(bu (cn 5 (gS (k8 (xT (aP cP (au (ai 2) aL)))) (i7 0) (bT (b2 jC (e2 cD (ai 1) (ai 0)) (e2 cD (ai 1) (ai 2)))) (xP (ai 0)) [(Str.ofString "one")] [2,4])) (il 3 (Cw (xP (ai 5)) (bO aF (aw (bC 0) (aw (xP (aP cP (au (ai 5) aL))) bH))))))
noncomputable def kN:FZ:=(bu (cn 3 (kY (dA aL))) (bu (jt (iP (fQ (e2 cD (ai 1) (eC (.int 1))))) (i7 4) l4) (gK (ve (aw (xP (e2 cD (ai 1) (eC (.int 0)))) (aw (xT (aP fH (au (ai 3) aL))) (aw (x2 jC (bO aF (aw (bC 0) (aw (xP (eC (.int 4))) bH))) (xP (eC (.int 0)))) bH)))))))
noncomputable def mU:List V3→aN→R3 V3:=kJ gT kN
noncomputable def gf:List V3→aN→R3 V3:=lU gT kN
theorem va{P:Program}{w:World}{K:PySem.W.Frag}{mg:Str→Option Value}{base:Heap}{cl:Nat→Addr}(T:Tp K mg cl)(h:Def K mg (Str.ofString "_law_again") dn)(XP_law_take:az P w K mg base cl 1 (Str.ofString "_law_take") 2 aF):az P w K mg base cl 2 (Str.ofString "_law_again") 3 mU:=by
 obtain⟨f,fd,F,hm⟩:=h
 exact⟨f,fd,_,bM (k:=1) tJ.2 kh.2 F jg (fun cdv A outer s H E hr=>(av (aW jg.nd rfl (Or.inl rfl) (fK (bV ak))) (av (d3 PassesOwn.never rfl (cR (d7 (aJ (aa 1) ah (fun _ _=>rfl)))) (bg jg.nd rfl (Or.inr rfl)) (av (ka rfl jg.nd rfl rfl (cq.of (own:=[(Str.ofString "one")]) (kp:=[2,4]) (kn:=[(Str.ofString "kinds"),(Str.ofString "wire")]) (sc:=kh.1) (N:=gT) rfl rfl (by decide+kernel)) (fF (cF (aX dv rfl T.z_len PySem.boot_len (ab (aa 2) ak))) rfl T.z_range) (fun _ _ _=>(bg (show List.Nodup [(Str.ofString "one"),(Str.ofString "kinds"),(Str.ofString "wire")] from by decide+kernel) rfl (Or.inl rfl))) (fun _ _ _=>(nB (lr (bJ (jR hr.units) (aJ (aa 1) (aa 0) (fun _ _=>rfl)) (aJ (aa 1) (aa 2) (fun _ _=>rfl)) (ck _))))) (fun _ _ _=>(aj (aa 0)))) (aK (eB rfl (Or.inl rfl) (qB (aj (aa 5)) (ba XP_law_take hr (by decide) rfl (ae (aI 0) (ae (aj (aX dv rfl T.z_len PySem.boot_len (ab (aa 5) ak))) aC)) (af (af aA))) (fun _ _=>rfl)))))) (aK (cO (om (ae (aj (aJ (aa 1) ah (fun _ _=>rfl))) (ae (cF (kf pL rfl T.z_tuple PyProof.Rows.boot_tuple (ab (aa 3) ak))) (ae (s_ (jR hr.units) (ba XP_law_take hr (by decide) rfl (ae (aI 0) (ae (aj ah) aC)) (af (af aA))) (aj ah) (ck _)) aC))))))))),hm,F.kp,F.binds fun _ _ _ _ _ _ us hl=>match us,hl with | [_,_,_],_=>rfl⟩
noncomputable abbrev dQ:Stmt:=top 29
noncomputable abbrev gH:List Str:=[(Str.ofString "reel"),(Str.ofString "kinds"),(Str.ofString "names"),(Str.ofString "most"),(Str.ofString "outs"),(Str.ofString "k"),(Str.ofString "wire"),(Str.ofString "same"),(Str.ofString "width"),(Str.ofString "some"),(Str.ofString "way")]
noncomputable def uv:{b:List Stmt // ao dQ=b}:=by
 have e:ao dQ=ao dQ:=rfl
 conv at e=>rhs;whnf
 exact⟨_,e⟩
noncomputable def jj:{b:Scope // ag dQ=b}:=by
 have e:ag dQ=ag dQ:=rfl
 conv at e=>rhs;whnf
 exact⟨_,e⟩
theorem eA:aV gH [(Str.ofString "reel"),(Str.ofString "kinds"),(Str.ofString "names"),(Str.ofString "most")] jj.1:=⟨rfl,rfl,rfl,by decide+kernel,rfl,by decide+kernel,by decide+kernel⟩
noncomputable def j8:FZ:=(bu (cn 6 (x2 jG (xT (e2 jG (aP cP (au (ai 1) aL)) (eC (.int 1)))) (bO aF (aw (bC 0) (aw (xT (aP cP (au (ai 1) aL))) bH))))) (bu (cn 7 (gS (k8 (xT (aP cP (au (ai 1) aL)))) (i7 0) (bT (b2 jC (e2 cD (ai 1) (ai 0)) (e2 cD (ai 1) (ai 2)))) (xP (ai 0)) [(Str.ofString "one")] [1,6])) (bu (cn 8 (Cw (xP (eNew (dA (au (eC (.int 1)) (au (eC (.int 1)) (au (eC (.int 2)) (au (eC (.int 2)) (au (eC (.int 3)) (au (eC (.int 3)) aL))))))))) (bO aF (aw (bC 0) (aw (xP (eC (.int 6))) bH))))) (bu (cn 9 (D7 (xP (eNew (dA (au (ai 6) aL)))) (gS (iP (ee (e2 jG (ai 8) (eC (.int 1))))) (i7 0) tU (Cw (xP (ai 2)) (bO aF (aw (bC 1) (aw (xP (aP cP (au (ai 2) aL))) bH)))) [(Str.ofString "j")] [0,7]))) (bu (cn 10 (bO aF (aw (bC 0) (aw (xP (eC (.int 3))) bH)))) (bu (xW (bP (mE (b2 jC (ai 8) (eC (.int 3))) (b2 xH (ai 10) (eC (.int 0))))) (wD (bC 9) (xP (eC (.int 2))) (bO aF (aw (bC 0) (aw (xT (aP cP (au (ai 1) aL))) bH)))) qz) (bu (xW (bP (mE (b2 jC (ai 8) (eC (.int 3))) (b2 xH (ai 10) (eC (.int 1))))) (wD (bC 9) (xP (eC (.int 1))) (bO aF (aw (bC 0) (aw (xT (aP cP (au (ai 1) aL))) bH)))) qz) (il 4 (xT (dU (au (e2 cD (ai 2) (ai 5)) (au (aP fH (au (ai 9) aL)) aL))))))))))))
noncomputable def l_:FZ:=(bu (cn 4 (kY (dA aL))) (bu (jt (k8 (x2 e_ (xP (eC (.int 1))) (bO aF (aw (bC 0) (aw (xP (ai 3)) bH))))) (i7 5) j8) (gK (bC 4))))
noncomputable def o4:List V3→aN→R3 V3:=kJ gH l_
noncomputable def gY:List V3→aN→R3 V3:=lU gH l_
theorem wa{P:Program}{w:World}{K:PySem.W.Frag}{mg:Str→Option Value}{base:Heap}{cl:Nat→Addr}(T:Tp K mg cl)(h:Def K mg (Str.ofString "_law_outs") dQ)(XP_law_take:az P w K mg base cl 1 (Str.ofString "_law_take") 2 aF):az P w K mg base cl 2 (Str.ofString "_law_outs") 4 o4:=by
 obtain⟨f,fd,F,hm⟩:=h
 exact⟨f,fd,_,bM (k:=1) uv.2 jj.2 F eA (fun cdv A outer s H E hr=>(av (aW eA.nd rfl (Or.inl rfl) (fK (bV ak))) (av (d3 PassesOwn.never rfl (fF (oJ hJ (aj ah) (ba XP_law_take hr (by decide) rfl (ae (aI 0) (ae (aj (aa 3)) aC)) (af (af aA)))) rfl T.z_range) (bg eA.nd rfl (Or.inl rfl)) (av (aW eA.nd rfl (Or.inr rfl) (oJ oZ (cF (aO oZ (aX dv rfl T.z_len PySem.boot_len (ab (aa 1) ak)) ah)) (ba XP_law_take hr (by decide) rfl (ae (aI 0) (ae (cF (aX dv rfl T.z_len PySem.boot_len (ab (aa 1) ak))) aC)) (af (af aA))))) (av (aW eA.nd rfl (Or.inr rfl) (lI rfl (cq.of (own:=[(Str.ofString "one")]) (kp:=[1,6]) (kn:=[(Str.ofString "kinds"),(Str.ofString "wire")]) (sc:=jj.1) (N:=gH) rfl rfl (by decide+kernel)) (fF (cF (aX dv rfl T.z_len PySem.boot_len (ab (aa 1) ak))) rfl T.z_range) (fun _ _ _=>(bg (show List.Nodup [(Str.ofString "one"),(Str.ofString "kinds"),(Str.ofString "wire")] from by decide+kernel) rfl (Or.inl rfl))) (fun _ _ _=>(nB (lr (bJ (jR hr.units) (aJ (aa 1) (aa 0) (fun _ _=>rfl)) (aJ (aa 1) (aa 2) (fun _ _=>rfl)) (ck _))))) (fun _ _ _=>(aj (aa 0))))) (av (aW eA.nd rfl (Or.inl rfl) (qB (aj (cU (bV (ab ah (ab ah (ab ah (ab ah (ab ah (ab ah ak))))))))) (ba XP_law_take hr (by decide) rfl (ae (aI 0) (ae (aj ah) aC)) (af (af aA))) (fun _ _=>rfl))) (av (aW eA.nd rfl (Or.inl rfl) (A8 (aj (cU (bV (ab (aa 6) ak)))) (lI rfl (cq.of (own:=[(Str.ofString "j")]) (kp:=[0,7]) (kn:=[(Str.ofString "reel"),(Str.ofString "same")]) (sc:=jj.1) (N:=gH) rfl rfl (by decide+kernel)) (cR (cG (aO oZ (aa 8) ah) rfl T.z_range)) (fun _ _ _=>(bg (show List.Nodup [(Str.ofString "j"),(Str.ofString "reel"),(Str.ofString "same")] from by decide+kernel) rfl (Or.inl rfl))) (fun _ _ _=>ip) (fun _ _ _=>(qB (aj (aa 2)) (ba XP_law_take hr (by decide) rfl (ae (aI 1) (ae (aj (aX dv rfl T.z_len PySem.boot_len (ab (aa 2) ak))) aC)) (af (af aA))) (fun _ _=>rfl)))))) (av (aW eA.nd rfl (Or.inl rfl) (ba XP_law_take hr (by decide) rfl (ae (aI 0) (ae (aj ah) aC)) (af (af aA)))) (av (l0 (gm (tq (vg (bJ (jR hr.units) (aa 8) ah (ck _)) (rZ (bJ Hn (aa 10) ah (ck _)))))) (aK (tI (ba XP_law_take hr (by decide) rfl (ae (aI 0) (ae (cF (aX dv rfl T.z_len PySem.boot_len (ab (aa 1) ak))) aC)) (af (af aA))) (sT (PX.go (aI 9)) (PX.go (aj ah)) set_list))) ke) (av (l0 (gm (tq (vg (bJ (jR hr.units) (aa 8) ah (ck _)) (rZ (bJ Hn (aa 10) ah (ck _)))))) (aK (tI (ba XP_law_take hr (by decide) rfl (ae (aI 0) (ae (cF (aX dv rfl T.z_len PySem.boot_len (ab (aa 1) ak))) aC)) (af (af aA))) (sT (PX.go (aI 9)) (PX.go (aj ah)) set_list))) ke) (aK (eB rfl (Or.inl rfl) (cF (cx (ab (aJ (aa 2) (aa 5) (fun _ _=>rfl)) (ab (kf pL rfl T.z_tuple PyProof.Rows.boot_tuple (ab (aa 9) ak)) ak)))))))))))))) (aK (cO (aI 4)))))),hm,F.kp,F.binds fun _ _ _ _ _ _ us hl=>match us,hl with | [_,_,_,_],_=>rfl⟩
noncomputable abbrev eT:Stmt:=top 30
noncomputable abbrev lC:List Str:=[(Str.ofString "reel"),(Str.ofString "cells"),(Str.ofString "most_ins"),(Str.ofString "most_sure"),(Str.ofString "names"),(Str.ofString "ins"),(Str.ofString "kinds"),(Str.ofString "k"),(Str.ofString "width"),(Str.ofString "ahead"),(Str.ofString "gates"),(Str.ofString "cell"),(Str.ofString "own"),(Str.ofString "place")]
noncomputable def wb:{b:List Stmt // ao eT=b}:=by
 have e:ao eT=ao eT:=rfl
 conv at e=>rhs;whnf
 exact⟨_,e⟩
noncomputable def qV:{b:Scope // ag eT=b}:=by
 have e:ag eT=ag eT:=rfl
 conv at e=>rhs;whnf
 exact⟨_,e⟩
theorem de:aV lC [(Str.ofString "reel"),(Str.ofString "cells"),(Str.ofString "most_ins"),(Str.ofString "most_sure")] qV.1:=⟨rfl,rfl,rfl,by decide+kernel,rfl,by decide+kernel,by decide+kernel⟩
noncomputable def ll:FZ:=(bu (cn 8 (x2 e_ (xP (eC (.int 1))) (bO aF (aw (bC 0) (aw (xP (eC (.int 3))) bH))))) (bu (il 5 (xP (dU (au (e2 cD (ai 4) (e2 jG (eC (.int 7)) (ai 7))) (au (ai 8) aL))))) (cn 6 (D7 (bC 6) (xP (eNew (CL (dA (au (ai 7) aL)) (ai 8))))))))
noncomputable def lA:FZ:=(bu (cn 12 (bO eH (aw (xP (ai 11)) bH))) (xW (ER (bT (b2 rn (ai 10) (eNew (dA aL)))) (Hw jC (bO aF (aw (bC 12) (aw (xP (eC (.int 3))) bH))) (xP (eC (.int 0))))) (bu (cn 13 (bO aF (aw (bC 12) (aw (xT (aP cP (au (ai 10) aL))) bH)))) (bu (il 10 (bO gf (aw (bC 12) (aw (xT (e2 cD (ai 10) (ai 13))) (aw (bC 6) bH))))) (il 6 (xT (e2 cD (ai 6) (e2 e_ (ai 9) (ai 13))))))) (bu (il 10 (bO fX (aw (bC 12) (aw (bC 6) (aw (xP (ai 3)) bH))))) (il 6 (xT (e2 e_ (aP cP (au (ai 6) aL)) (eC (.int 10))))))))
noncomputable def nX:FZ:=(bu (cn 4 (bO gn (aw (bC 0) (aw (xP (eC (.int 8))) bH)))) (bu (cn 5 (kY (dA aL))) (bu (cn 6 (kY (dA aL))) (bu (jt (k8 (x2 e_ (xP (eC (.int 1))) (bO aF (aw (bC 0) (aw (xP (ai 2)) bH))))) (i7 7) ll) (bu (cn 9 (xT (aP cP (au (ai 6) aL)))) (bu (cn 10 (kY (dA aL))) (bu (jt (iP (fQ (ai 1))) (i7 11) lA) (gK (ve (aw (bC 5) (aw (bC 10) (aw (bO gY (aw (bC 0) (aw (bC 6) (aw (xP (ai 4)) (aw (xP (eC (.int 6))) bH))))) bH))))))))))))
noncomputable def qe:List V3→aN→R3 V3:=kJ lC nX
noncomputable def jX:List V3→aN→R3 V3:=lU lC nX
theorem zF{P:Program}{w:World}{K:PySem.W.Frag}{mg:Str→Option Value}{base:Heap}{cl:Nat→Addr}(T:Tp K mg cl)(h:Def K mg (Str.ofString "_law_net") eT)(XP_law_names:az P w K mg base cl 2 (Str.ofString "_law_names") 2 gn)(XP_law_take:az P w K mg base cl 1 (Str.ofString "_law_take") 2 aF)(XK_law_reel:az P w K mg base cl 1 (Str.ofString "_law_reel") 1 eH)(XP_law_again:az P w K mg base cl 2 (Str.ofString "_law_again") 3 gf)(XP_law_gate:az P w K mg base cl 2 (Str.ofString "_law_gate") 3 fX)(XP_law_outs:az P w K mg base cl 2 (Str.ofString "_law_outs") 4 gY):az P w K mg base cl 3 (Str.ofString "_law_net") 4 qe:=by
 obtain⟨f,fd,F,hm⟩:=h
 exact⟨f,fd,_,bM (k:=2) wb.2 qV.2 F de (fun cdv A outer s H E hr=>(av (aW de.nd rfl (Or.inl rfl) (ba XP_law_names hr (by decide) rfl (ae (aI 0) (ae (aj ah) aC)) (af (af aA)))) (av (aW de.nd rfl (Or.inl rfl) (fK (bV ak))) (av (aW de.nd rfl (Or.inl rfl) (fK (bV ak))) (av (d3 PassesOwn.never rfl (fF (oJ hJ (aj ah) (ba XP_law_take hr (by decide) rfl (ae (aI 0) (ae (aj (aa 2)) aC)) (af (af aA)))) rfl T.z_range) (bg de.nd rfl (Or.inl rfl)) (av (aW de.nd rfl (Or.inl rfl) (oJ hJ (aj ah) (ba XP_law_take hr (by decide) rfl (ae (aI 0) (ae (aj ah) aC)) (af (af aA))))) (av (eB rfl (Or.inl rfl) (aj (cx (ab (aJ (aa 4) (aO oZ ah (aa 7)) (fun _ _=>rfl)) (ab (aa 8) ak))))) (aK (aW de.nd rfl (Or.inl rfl) (A8 (aI 6) (aj (cU (Dp (bV (ab (aa 7) ak)) (aa 8)))))))))) (av (aW de.nd rfl (Or.inl rfl) (cF (aX dv rfl T.z_len PySem.boot_len (ab (aa 6) ak)))) (av (aW de.nd rfl (Or.inl rfl) (fK (bV ak))) (av (d3 PassesOwn.never rfl (cR (d7 (aa 1))) (bg de.nd rfl (Or.inl rfl)) (av (aW de.nd rfl (Or.inl rfl) (ba XK_law_reel hr (by decide) rfl (ae (aj (aa 11)) aC) (af aA))) (aK (l0 (GZ.pb (DU (lr (bJ (Aa hr.units) (aa 10) (cU (bV ak)) (ck _))) (BO (ye (jR hr.units) (ba XP_law_take hr (by decide) rfl (ae (aI 12) (ae (aj ah) aC)) (af (af aA))) (aj ah) (ck _))))) (av (aW de.nd rfl (Or.inl rfl) (ba XP_law_take hr (by decide) rfl (ae (aI 12) (ae (cF (aX dv rfl T.z_len PySem.boot_len (ab (aa 10) ak))) aC)) (af (af aA)))) (av (eB rfl (Or.inl rfl) (ba XP_law_again hr (by decide) rfl (ae (aI 12) (ae (cF (aJ (aa 10) (aa 13) (fun _ _=>rfl))) (ae (aI 6) aC))) (af (af (af aA))))) (aK (eB rfl (Or.inl rfl) (cF (aJ (aa 6) (aO hJ (aa 9) (aa 13)) (fun _ _=>rfl))))))) (av (eB rfl (Or.inl rfl) (ba XP_law_gate hr (by decide) rfl (ae (aI 12) (ae (aI 6) (ae (aj (aa 3)) aC))) (af (af (af aA))))) (aK (eB rfl (Or.inl rfl) (cF (aO hJ (aX dv rfl T.z_len PySem.boot_len (ab (aa 6) ak)) ah))))))))) (aK (cO (om (ae (aI 5) (ae (aI 10) (ae (ba XP_law_outs hr (by decide) rfl (ae (aI 0) (ae (aI 6) (ae (aj (aa 4)) (ae (aj ah) aC)))) (af (af (af (af aA))))) aC)))))))))))))),hm,F.kp,F.binds fun _ _ _ _ _ _ us hl=>match us,hl with | [_,_,_,_],_=>rfl⟩
noncomputable abbrev cW:Stmt:=top 31
noncomputable abbrev j4:List Str:=[(Str.ofString "many"),(Str.ofString "found"),(Str.ofString "k"),(Str.ofString "wider"),(Str.ofString "bits")]
noncomputable def rE:{b:List Stmt // ao cW=b}:=by
 have e:ao cW=ao cW:=rfl
 conv at e=>rhs;whnf
 exact⟨_,e⟩
noncomputable def lS:{b:Scope // ag cW=b}:=by
 have e:ag cW=ag cW:=rfl
 conv at e=>rhs;whnf
 exact⟨_,e⟩
theorem dS:aV j4 [(Str.ofString "many")] lS.1:=⟨rfl,rfl,rfl,by decide+kernel,rfl,by decide+kernel,by decide+kernel⟩
noncomputable def iW:FS:=(ib 3 (e2 jU (ai 3) (eNew (dA (au (e2 jU (ai 4) (dU (au (eC (.int 0)) aL))) (au (e2 jU (ai 4) (dU (au (eC (.int 1)) aL))) aL))))))
noncomputable def iF:FS:=(el (ib 3 (eNew (dA aL))) (el (o9 (fQ (ai 1)) (aY 4) iW) (ib 1 (ai 3))))
noncomputable def nj:FS:=(el (ib 1 (eNew (dA (au (dU aL) aL)))) (el (o9 (ee (ai 0)) (aY 2) iF) (er (ai 1))))
noncomputable def eM:List D→R D:=nP j4 nj
theorem t_{P:Program}{w:World}{K:PySem.W.Frag}{mg:Str→Option Value}{base:Heap}{cl:Nat→Addr}(T:Tp K mg cl)(h:Def K mg (Str.ofString "_law_inputs") cW):Callee P w K mg base 1 (Str.ofString "_law_inputs") 1 eM:=by
 obtain⟨f,fd,F,hm⟩:=h
 exact⟨f,fd,_,cZ (k:=0) rE.2 lS.2 F dS (fun cdv A outer s H E hr=>(bQ (iJ dS.nd rfl (Or.inl rfl) (cU (bV (ab (cx ak) ak)))) (bQ (jJ PassesOwn.never rfl (cG (aa 0) rfl T.z_range) (b_ dS.nd rfl (Or.inl rfl)) (bQ (iJ dS.nd rfl (Or.inl rfl) (cU (bV ak))) (bQ (jJ PassesOwn.never rfl (d7 (aa 1)) (b_ dS.nd rfl (Or.inl rfl)) (bx (iJ dS.nd rfl (Or.inl rfl) (aO mr (aa 3) (cU (bV (ab (aO mr (aa 4) (cx (ab ah ak))) (ab (aO mr (aa 4) (cx (ab ah ak))) ak)))))))) (bx (iJ dS.nd rfl (Or.inl rfl) (aa 3)))))) (bx (bZ (aa 1)))))),hm,F.kp,F.binds fun _ _ _ _ _ _ us hl=>match us,hl with | [_],_=>rfl⟩
noncomputable abbrev cE:Stmt:=top 32
noncomputable abbrev eG:List Str:=[(Str.ofString "net"),(Str.ofString "place"),(Str.ofString "due"),(Str.ofString "found"),(Str.ofString "number"),(Str.ofString "bits"),(Str.ofString "now"),(Str.ofString "kinds"),(Str.ofString "k")]
noncomputable def px:{b:List Stmt // ao cE=b}:=by
 have e:ao cE=ao cE:=rfl
 conv at e=>rhs;whnf
 exact⟨_,e⟩
noncomputable def g_:{b:Scope // ag cE=b}:=by
 have e:ag cE=ag cE:=rfl
 conv at e=>rhs;whnf
 exact⟨_,e⟩
theorem c8:aV eG [(Str.ofString "net"),(Str.ofString "place"),(Str.ofString "due")] g_.1:=⟨rfl,rfl,rfl,by decide+kernel,rfl,by decide+kernel,by decide+kernel⟩
noncomputable def gG:FZ:=(xW (bP (b2 IT (e2 cD (ai 6) (ai 8)) (eC .cS))) (il 7 (xP (eC (.int 1)))) (xW (bP (b2 rn (e2 cD (ai 6) (ai 8)) (e2 cD (e2 cD (ai 2) (ai 8)) (ai 4)))) (il 7 (xP (eC (.int 2)))) qz))
noncomputable def jV:FZ:=(bu (cn 6 (gS (vd (bO n5 (aw (xP (ai 0)) (aw (xP (ai 5)) (aw (xP (dU (au (ai 1) aL))) (aw (xP (dU aL)) bH)))))) (i7 0) tU (xP (aP mD (au (ai 0) aL))) [(Str.ofString "some")] [])) (bu (cn 7 (kY (dA (au (eC (.int 0)) aL)))) (bu (jt (iP (ee (aP cP (au (ai 6) aL)))) (i7 8) gG) (il 3 (xT (aP yC (au (ai 7) aL)))))))
noncomputable def i0:FZ:=(bu (cn 3 (kY (dA aL))) (bu (jt (iP (iZ (aP eM (au (aP cP (au (e2 cD (ai 0) (eC (.int 0))) aL)) aL)))) (yy 2 (uZ (i7 4) (uZ (i7 5) zp))) jV) (gK (bC 3))))
noncomputable def kG:List V3→aN→R3 V3:=kJ eG i0
noncomputable def fB:List V3→aN→R3 V3:=lU eG i0
theorem p7{P:Program}{w:World}{K:PySem.W.Frag}{mg:Str→Option Value}{base:Heap}{cl:Nat→Addr}(T:Tp K mg cl)(h:Def K mg (Str.ofString "_law_kinds_at") cE)(C_law_inputs:Callee P w K mg base 1 (Str.ofString "_law_inputs") 1 eM)(C_told:Callee P w K mg base 3 (Str.ofString "told") 1 mD)(XP_run:az P w K mg base cl 4 (Str.ofString "run") 4 n5):az P w K mg base cl 5 (Str.ofString "_law_kinds_at") 3 kG:=by
 obtain⟨f,fd,F,hm⟩:=h
 exact⟨f,fd,_,bM (k:=4) px.2 g_.2 F c8 (fun cdv A outer s H E hr=>(av (aW c8.nd rfl (Or.inl rfl) (fK (bV ak))) (av (d3 PassesOwn.never rfl (cR (lH (bR C_law_inputs hr (by decide) rfl (ab (aX dv rfl T.z_len PySem.boot_len (ab (aJ (aa 0) ah (fun _ _=>rfl)) ak)) ak) (aR cw)) rfl T.z_enumerate)) (pF rfl (fV (bg c8.nd rfl (Or.inl rfl)) (fV (bg c8.nd rfl (Or.inl rfl)) ny))) (av (ka rfl c8.nd rfl rfl (cq.of (own:=[(Str.ofString "some")]) (kp:=[]) (kn:=[]) (sc:=g_.1) (N:=eG) rfl rfl (by decide+kernel)) (m5 (ba XP_run hr (by decide) rfl (ae (aj (aa 0)) (ae (aj (aa 5)) (ae (aj (cx (ab (aa 1) ak))) (ae (aj (cx ak)) aC)))) (af (af (af (af aA)))))) (fun _ _ _=>(bg (show List.Nodup [(Str.ofString "some")] from by decide+kernel) rfl (Or.inl rfl))) (fun _ _ _=>ip) (fun _ _ _=>(aj (bR C_told hr (by decide) rfl (ab (aa 0) ak) (aR cw))))) (av (aW c8.nd rfl (Or.inl rfl) (fK (bV (ab ah ak)))) (av (d3 PassesOwn.never rfl (cR (cG (aX dv rfl T.z_len PySem.boot_len (ab (aa 6) ak)) rfl T.z_range)) (bg c8.nd rfl (Or.inl rfl)) (aK (l0 (gm (bJ JZ (aJ (aa 6) (aa 8) (fun _ _=>rfl)) xK (ck _))) (aK (eB rfl (Or.inl rfl) (aj ah))) (aK (l0 (gm (bJ (Aa hr.units) (aJ (aa 6) (aa 8) (fun _ _=>rfl)) (aJ (aJ (aa 2) (aa 8) (fun _ _=>rfl)) (aa 4) (fun _ _=>rfl)) (ck _))) (aK (eB rfl (Or.inl rfl) (aj ah))) ke))))) (aK (eB rfl (Or.inl rfl) (cF (aX (GK rfl) rfl T.z_max PyProof.Rows.boot_max (ab (aa 7) ak))))))))) (aK (cO (aI 3)))))),hm,F.kp,F.binds fun _ _ _ _ _ _ us hl=>match us,hl with | [_,_,_],_=>rfl⟩
noncomputable abbrev dw:Stmt:=top 33
noncomputable abbrev ja:List Str:=[(Str.ofString "rows"),(Str.ofString "least"),(Str.ofString "place"),(Str.ofString "kinds"),(Str.ofString "many")]
noncomputable def tS:{b:List Stmt // ao dw=b}:=by
 have e:ao dw=ao dw:=rfl
 conv at e=>rhs;whnf
 exact⟨_,e⟩
noncomputable def km:{b:Scope // ag dw=b}:=by
 have e:ag dw=ag dw:=rfl
 conv at e=>rhs;whnf
 exact⟨_,e⟩
theorem jf:aV ja [(Str.ofString "rows"),(Str.ofString "least")] km.1:=⟨rfl,rfl,rfl,by decide+kernel,rfl,by decide+kernel,by decide+kernel⟩
noncomputable def gL:FS:=(el (ib 4 (eNew (gB (ee (aP cP (au (ai 3) aL))) (aY 0) (b2 zT (e2 cD (ai 2) (ai 0)) (ai 1)) (ai 0) [(Str.ofString "number")] [1,3]))) (pj (b2 rn (ai 4) (eNew (dA aL))) (er (dU (au (eC (.str (Str.ofString "breaks"))) (au (dU (au (ai 2) aL)) (au (e2 cD (ai 4) (eC (.int 0))) aL))))) jz))
noncomputable def oT:FS:=(el (o9 (fQ (ai 0)) (eY 2 (b3 (aY 2) (b3 (aY 3) eZ))) gL) (er (dU (au (eC (.str (Str.ofString "bears"))) aL))))
noncomputable def dO:List D→R D:=nP ja oT
theorem ui{P:Program}{w:World}{K:PySem.W.Frag}{mg:Str→Option Value}{base:Heap}{cl:Nat→Addr}(T:Tp K mg cl)(h:Def K mg (Str.ofString "_law_first") dw):Callee P w K mg base 1 (Str.ofString "_law_first") 2 dO:=by
 obtain⟨f,fd,F,hm⟩:=h
 exact⟨f,fd,_,cZ (k:=0) tS.2 km.2 F jf (fun cdv A outer s H E hr=>(bQ (jJ PassesOwn.never rfl (d7 (aa 0)) (kU rfl (dC (b_ jf.nd rfl (Or.inl rfl)) (dC (b_ jf.nd rfl (Or.inr rfl)) jT))) (bQ (tH rfl jf.nd rfl rfl (cq.of (own:=[(Str.ofString "number")]) (kp:=[1,3]) (kn:=[(Str.ofString "least"),(Str.ofString "kinds")]) (sc:=km.1) (N:=ja) rfl rfl (by decide+kernel)) (cG (aX dv rfl T.z_len PySem.boot_len (ab (aa 3) ak)) rfl T.z_range) (fun _ _ _=>(b_ (show List.Nodup [(Str.ofString "number"),(Str.ofString "least"),(Str.ofString "kinds")] from by decide+kernel) rfl (Or.inl rfl))) (fun _ _ _=>(vU (bJ HZ (aJ (aa 2) (aa 0) (fun _ _=>rfl)) (aa 1) (ck _)))) (fun _ _ _=>(aa 0))) (bx (gP (bJ (Aa hr.units) (aa 4) (cU (bV ak)) (ck _)) (bx (bZ (cx (ab bA (ab (cx (ab (aa 2) ak)) (ab (aJ (aa 4) ah (fun _ _=>rfl)) ak)))))) fu)))) (bx (bZ (cx (ab bA ak)))))),hm,F.kp,F.binds fun _ _ _ _ _ _ us hl=>match us,hl with | [_,_],_=>rfl⟩
noncomputable abbrev oV:Stmt:=top 34
noncomputable abbrev lY:List Str:=[(Str.ofString "script"),(Str.ofString "reel"),(Str.ofString "cells"),(Str.ofString "k"),(Str.ofString "net"),(Str.ofString "due"),(Str.ofString "free"),(Str.ofString "rows")]
noncomputable def Fj:{b:List Stmt // ao oV=b}:=by
 have e:ao oV=ao oV:=rfl
 conv at e=>rhs;whnf
 exact⟨_,e⟩
noncomputable def qC:{b:Scope // ag oV=b}:=by
 have e:ag oV=ag oV:=rfl
 conv at e=>rhs;whnf
 exact⟨_,e⟩
theorem mX:aV lY [(Str.ofString "script")] qC.1:=⟨rfl,rfl,rfl,by decide+kernel,rfl,by decide+kernel,by decide+kernel⟩
noncomputable def xY:FZ:=(cn 2 (x2 e_ (xP (ai 2)) (GR (aw (bO aF (aw (bC 1) (aw (xP (e2 pR (eC (.int 10)) (eC (.int 40)))) bH))) bH))))
noncomputable def rG:FZ:=(bu (cn 1 (bO eH (aw (xP (aP d8 (au (ai 0) (au (eC (.int 0)) aL)))) bH))) (bu (cn 2 (xP (wj (ai 0) (hW (eC (.int 1))) (hW (eC (.int 61)))))) (bu (jt (iP (ee (e2 jG (eC (.int 2)) (aP cP (au (ai 2) aL))))) (i7 3) xY) (bu (cn 4 (bO jX (aw (bC 1) (aw (xP (ai 2)) (aw (xP (e2 cD (eNew (dA (au (eC (.int 6)) (au (eC (.int 6)) (au (eC (.int 4)) (au (eC (.int 3)) (au (eC (.int 3)) (au (eC (.int 2)) (au (eC (.int 2)) aL))))))))) (e2 sH (aP cP (au (ai 2) aL)) (eC (.int 10))))) (aw (xP (eC (.int 1))) bH)))))) (bu (cn 5 (bO j_ (aw (xP (ai 4)) bH))) (bu (cn 6 (gS (iP (ee (aP cP (au (e2 cD (ai 4) (eC (.int 1))) aL)))) (i7 0) (bP (mm (ma (e2 cD (e2 cD (e2 cD (ai 1) (eC (.int 1))) (ai 0)) (eC (.int 2)))))) (xP (ai 0)) [(Str.ofString "place")] [4])) (bu (cn 7 (gS (iP (fQ (ai 6))) (i7 0) tU (ve (aw (xP (ai 0)) (aw (bO fB (aw (xP (ai 1)) (aw (xP (ai 0)) (aw (xP (ai 2)) bH)))) bH))) [(Str.ofString "place")] [4,5])) (bu (xW (Hw rn (bO mM (aw (xP (ai 4)) bH)) (xP (eNew (gB (fQ (ai 7)) (eY 2 (b3 (aY 0) (b3 (aY 1) eZ))) sW (dU (au (ai 0) (au (sf "list" kK (ai 1) (au (eC (.int 2)) aL)) (au (sf "list" kK (ai 1) (au (eC (.int 1)) aL)) aL)))) [(Str.ofString "place"),(Str.ofString "kinds")] [])))) (gK (xP (eC (.bl false)))) qz) (gK (Gk (x2 jC (bO lu (aw (xP (ai 4)) (aw (xP (eC (.int 1))) (aw (xP (eC (.str (Str.ofString "right")))) bH)))) (xP (aP dO (au (ai 7) (au (eC (.int 1)) aL))))) (x2 jC (bO lu (aw (xP (ai 4)) (aw (xP (eC (.int 1))) (aw (xP (eC (.str (Str.ofString "safe")))) bH)))) (xP (aP dO (au (ai 7) (au (eC (.int 2)) aL)))))))))))))))
noncomputable def Ju:List V3→aN→R3 V3:=kJ lY rG
noncomputable def JA:List V3→aN→R3 V3:=lU lY rG
noncomputable def xU:List D→R D:=IX lY rG
structure Cf (K:PySem.W.Frag) (mg:Str→Option Value) (cl:Nat→Addr):Prop where
 C_Bench:ud K (cl 0)
 N_Bench_net:c6 K (cl 0) (Str.ofString "net")
 N_Bench_many_inputs:c6 K (cl 0) (Str.ofString "many_inputs")
 N_Bench_full:c6 K (cl 0) (Str.ofString "full")
 N_Bench_in_masks:c6 K (cl 0) (Str.ofString "in_masks")
 M_Bench:mg (Str.ofString "Bench")=some (.ref (cl 0))
 C_Trial:ud K (cl 1)
 N_Trial_bench:c6 K (cl 1) (Str.ofString "bench")
 N_Trial_plain:c6 K (cl 1) (Str.ofString "plain")
 N_Trial_unsure:c6 K (cl 1) (Str.ofString "unsure")
 M_Trial:mg (Str.ofString "Trial")=some (.ref (cl 1))
 D_Bench___init__:yS K (cl 0) (Str.ofString "__init__") (Str.ofString "Bench.__init__") bp
 D_Bench_tells:mG K (cl 0) (Str.ofString "tells") (Str.ofString "Bench.tells") bL
 D_Bench_readings:mG K (cl 0) (Str.ofString "readings") (Str.ofString "Bench.readings") bo
 D_Bench_column:mG K (cl 0) (Str.ofString "column") (Str.ofString "Bench.column") bF
 D_Trial___init__:yS K (cl 1) (Str.ofString "__init__") (Str.ofString "Trial.__init__") bj
 D_Trial_breaks_at:mG K (cl 1) (Str.ofString "breaks_at") (Str.ofString "Trial.breaks_at") a_
 D_Bench_inputs_in:mG K (cl 0) (Str.ofString "inputs_in") (Str.ofString "Bench.inputs_in") aZ
theorem Ii{K:PySem.W.Frag}{h:Heap}{mg:Str→Option Value}(X:K.In h)(G:h.Ns mainGlobals mg){C0:Addr}{C1:Addr}{f0:Addr}{od0 an0:Option Addr}{sl0:Array (Option Value)}{oc0 kV0 dc0 pm0 cd0 ct0:Value}{f1:Addr}{od1 an1:Option Addr}{sl1:Array (Option Value)}{oc1 kV1 dc1 pm1 cd1 ct1:Value}{f2:Addr}{od2 an2:Option Addr}{sl2:Array (Option Value)}{oc2 kV2 dc2 pm2 cd2 ct2:Value}{f3:Addr}{od3 an3:Option Addr}{sl3:Array (Option Value)}{oc3 kV3 dc3 pm3 cd3 ct3:Value}{f4:Addr}{od4 an4:Option Addr}{sl4:Array (Option Value)}{oc4 kV4 dc4 pm4 cd4 ct4:Value}{f5:Addr}{od5 an5:Option Addr}{sl5:Array (Option Value)}{oc5 kV5 dc5 pm5 cd5 ct5:Value}{f6:Addr}{od6 an6:Option Addr}{sl6:Array (Option Value)}{oc6 kV6 dc6 pm6 cd6 ct6:Value}(aC0:PySem.W.nsIn K mainGlobals (Str.ofString "Bench")=some (some (.ref C0)))(pg0:PySem.W.plainGet K C0 Str.empty=true)(hd0:PySem.W.hasDictIn K C0=true)(po0:PySem.W.plainOver K C0=true)(sa0:PySem.W.findIn K (.ref C0) "__setattr__"=some (some (.builtin "object.__setattr__")))(mk0:PySem.W.makesIn K C0=true)(kc0:PySem.W.keepIn K (.ref C0)=true)(n0_net:PySem.W.findIn K (.ref C0) (Str.ofString "net")=some none)(n0_many_inputs:PySem.W.findIn K (.ref C0) (Str.ofString "many_inputs")=some none)(n0_full:PySem.W.findIn K (.ref C0) (Str.ofString "full")=some none)(n0_in_masks:PySem.W.findIn K (.ref C0) (Str.ofString "in_masks")=some none)(aC1:PySem.W.nsIn K mainGlobals (Str.ofString "Trial")=some (some (.ref C1)))(pg1:PySem.W.plainGet K C1 Str.empty=true)(hd1:PySem.W.hasDictIn K C1=true)(po1:PySem.W.plainOver K C1=true)(sa1:PySem.W.findIn K (.ref C1) "__setattr__"=some (some (.builtin "object.__setattr__")))(mk1:PySem.W.makesIn K C1=true)(kc1:PySem.W.keepIn K (.ref C1)=true)(n1_bench:PySem.W.findIn K (.ref C1) (Str.ofString "bench")=some none)(n1_plain:PySem.W.findIn K (.ref C1) (Str.ofString "plain")=some none)(n1_unsure:PySem.W.findIn K (.ref C1) (Str.ofString "unsure")=some none)(a_Bench___init__:PySem.W.findIn K (.ref C0) (Str.ofString "__init__")=some (some (.ref f0)))(i_Bench___init__:PySem.W.isFn K (.ref f0)=true)(l_Bench___init__:K.lookup f0=some ⟨oc0,od0, .func (PySem.W.fnOf (Str.ofString "__init__") (Str.ofString "Bench.__init__") (fD bp) (ao bp) (ag bp) .none kV0 dc0 pm0 an0 cd0 ct0),sl0⟩)(dF:PySem.W.codeIn K cd0 (Str.ofString "Bench.__init__")=true)(k_Bench___init__:PySem.W.keepIn K (.ref f0)=true)(a_Bench_tells:PySem.W.findIn K (.ref C0) (Str.ofString "tells")=some (some (.ref f1)))(i_Bench_tells:PySem.W.isFn K (.ref f1)=true)(l_Bench_tells:K.lookup f1=some ⟨oc1,od1, .func (PySem.W.fnOf (Str.ofString "tells") (Str.ofString "Bench.tells") (fD bL) (ao bL) (ag bL) .none kV1 dc1 pm1 an1 cd1 ct1),sl1⟩)(ft:PySem.W.codeIn K cd1 (Str.ofString "Bench.tells")=true)(k_Bench_tells:PySem.W.keepIn K (.ref f1)=true)(a_Bench_readings:PySem.W.findIn K (.ref C0) (Str.ofString "readings")=some (some (.ref f2)))(i_Bench_readings:PySem.W.isFn K (.ref f2)=true)(l_Bench_readings:K.lookup f2=some ⟨oc2,od2, .func (PySem.W.fnOf (Str.ofString "readings") (Str.ofString "Bench.readings") (fD bo) (ao bo) (ag bo) .none kV2 dc2 pm2 an2 cd2 ct2),sl2⟩)(dM:PySem.W.codeIn K cd2 (Str.ofString "Bench.readings")=true)(k_Bench_readings:PySem.W.keepIn K (.ref f2)=true)(a_Bench_column:PySem.W.findIn K (.ref C0) (Str.ofString "column")=some (some (.ref f3)))(i_Bench_column:PySem.W.isFn K (.ref f3)=true)(l_Bench_column:K.lookup f3=some ⟨oc3,od3, .func (PySem.W.fnOf (Str.ofString "column") (Str.ofString "Bench.column") (fD bF) (ao bF) (ag bF) .none kV3 dc3 pm3 an3 cd3 ct3),sl3⟩)(eI:PySem.W.codeIn K cd3 (Str.ofString "Bench.column")=true)(k_Bench_column:PySem.W.keepIn K (.ref f3)=true)(a_Trial___init__:PySem.W.findIn K (.ref C1) (Str.ofString "__init__")=some (some (.ref f4)))(i_Trial___init__:PySem.W.isFn K (.ref f4)=true)(l_Trial___init__:K.lookup f4=some ⟨oc4,od4, .func (PySem.W.fnOf (Str.ofString "__init__") (Str.ofString "Trial.__init__") (fD bj) (ao bj) (ag bj) .none kV4 dc4 pm4 an4 cd4 ct4),sl4⟩)(dJ:PySem.W.codeIn K cd4 (Str.ofString "Trial.__init__")=true)(k_Trial___init__:PySem.W.keepIn K (.ref f4)=true)(a_Trial_breaks_at:PySem.W.findIn K (.ref C1) (Str.ofString "breaks_at")=some (some (.ref f5)))(i_Trial_breaks_at:PySem.W.isFn K (.ref f5)=true)(l_Trial_breaks_at:K.lookup f5=some ⟨oc5,od5, .func (PySem.W.fnOf (Str.ofString "breaks_at") (Str.ofString "Trial.breaks_at") (fD a_) (ao a_) (ag a_) .none kV5 dc5 pm5 an5 cd5 ct5),sl5⟩)(dt:PySem.W.codeIn K cd5 (Str.ofString "Trial.breaks_at")=true)(k_Trial_breaks_at:PySem.W.keepIn K (.ref f5)=true)(a_Bench_inputs_in:PySem.W.findIn K (.ref C0) (Str.ofString "inputs_in")=some (some (.ref f6)))(i_Bench_inputs_in:PySem.W.isFn K (.ref f6)=true)(l_Bench_inputs_in:K.lookup f6=some ⟨oc6,od6, .func (PySem.W.fnOf (Str.ofString "inputs_in") (Str.ofString "Bench.inputs_in") (fD aZ) (ao aZ) (ag aZ) .none kV6 dc6 pm6 an6 cd6 ct6),sl6⟩)(dg:PySem.W.codeIn K cd6 (Str.ofString "Bench.inputs_in")=true)(k_Bench_inputs_in:PySem.W.keepIn K (.ref f6)=true):∃cl,Cf K mg cl:=by
 exact⟨fun n=>if n=0 then C0 else C1,⟨pg0,hd0,po0,sa0⟩,n0_net,n0_many_inputs,n0_full,n0_in_masks,PySem.W.mg_of X G aC0,⟨pg1,hd1,po1,sa1⟩,n1_bench,n1_plain,n1_unsure,PySem.W.mg_of X G aC1,⟨_,_,lB (st:=bp) l_Bench___init__ dF k_Bench___init__,⟨mk0,a_Bench___init__,i_Bench___init__,kc0⟩⟩,⟨_,_,lB (st:=bL) l_Bench_tells ft k_Bench_tells,⟨a_Bench_tells,i_Bench_tells,k_Bench_tells⟩⟩,⟨_,_,lB (st:=bo) l_Bench_readings dM k_Bench_readings,⟨a_Bench_readings,i_Bench_readings,k_Bench_readings⟩⟩,⟨_,_,lB (st:=bF) l_Bench_column eI k_Bench_column,⟨a_Bench_column,i_Bench_column,k_Bench_column⟩⟩,⟨_,_,lB (st:=bj) l_Trial___init__ dJ k_Trial___init__,⟨mk1,a_Trial___init__,i_Trial___init__,kc1⟩⟩,⟨_,_,lB (st:=a_) l_Trial_breaks_at dt k_Trial_breaks_at,⟨a_Trial_breaks_at,i_Trial_breaks_at,k_Trial_breaks_at⟩⟩,⟨_,_,lB (st:=aZ) l_Bench_inputs_in dg k_Bench_inputs_in,⟨a_Bench_inputs_in,i_Bench_inputs_in,k_Bench_inputs_in⟩⟩⟩
theorem Ge{P:Program}{w:World}{K:PySem.W.Frag}{mg:Str→Option Value}{base:Heap}{f:Addr}{fd:FuncData}{cl:Nat→Addr}(T:Tp K mg cl)(D_vote_of:Def K mg (Str.ofString "vote_of") eP)(D_gate_mask:Def K mg (Str.ofString "gate_mask") dh)(D_in_wire_masks:Def K mg (Str.ofString "in_wire_masks") cm)(D_masks_at:Def K mg (Str.ofString "masks_at") dZ)(D_wire_masks:Def K mg (Str.ofString "wire_masks") cT)(D_out_masks:Def K mg (Str.ofString "out_masks") dk)(D_run:Def K mg (Str.ofString "run") nD)(D_reading:Def K mg (Str.ofString "reading") eN)(D_bit_at:Def K mg (Str.ofString "bit_at") gx)(D_read_at:Def K mg (Str.ofString "read_at") eU)(D_told:Def K mg (Str.ofString "told") kg)(D_all_inputs:Def K mg (Str.ofString "all_inputs") cV)(D_mask_of:Def K mg (Str.ofString "mask_of") eQ)(D_in_mask:Def K mg (Str.ofString "in_mask") eX)(D_Bench___init__:yS K (cl 0) (Str.ofString "__init__") (Str.ofString "Bench.__init__") bp)(D_Bench_tells:mG K (cl 0) (Str.ofString "tells") (Str.ofString "Bench.tells") bL)(D_Bench_readings:mG K (cl 0) (Str.ofString "readings") (Str.ofString "Bench.readings") bo)(D_Bench_column:mG K (cl 0) (Str.ofString "column") (Str.ofString "Bench.column") bF)(D_columns:Def K mg (Str.ofString "columns") eV)(D_choices:Def K mg (Str.ofString "choices") eW)(D_Trial___init__:yS K (cl 1) (Str.ofString "__init__") (Str.ofString "Trial.__init__") bj)(D_Trial_breaks_at:mG K (cl 1) (Str.ofString "breaks_at") (Str.ofString "Trial.breaks_at") a_)(D_Bench_inputs_in:mG K (cl 0) (Str.ofString "inputs_in") (Str.ofString "Bench.inputs_in") aZ)(D_bears:Def K mg (Str.ofString "bears") ie)(D_matters:Def K mg (Str.ofString "matters") eO)(D_law_cell_at:Def K mg (Str.ofString "_law_cell_at") cI)(D_law_reel:Def K mg (Str.ofString "_law_reel") dR)(D_law_take:Def K mg (Str.ofString "_law_take") dW)(D_law_names:Def K mg (Str.ofString "_law_names") dm)(D_law_gate:Def K mg (Str.ofString "_law_gate") dX)(D_law_again:Def K mg (Str.ofString "_law_again") dn)(D_law_outs:Def K mg (Str.ofString "_law_outs") dQ)(D_law_net:Def K mg (Str.ofString "_law_net") eT)(D_law_inputs:Def K mg (Str.ofString "_law_inputs") cW)(D_law_kinds_at:Def K mg (Str.ofString "_law_kinds_at") cE)(D_law_first:Def K mg (Str.ofString "_law_first") dw)(F:yq K (Str.ofString "law") (Str.ofString "law") oV f fd):ig P w K mg base rq 9 f fd [Str.ofString "script"] (Bw K 1 xU):=by
 have C_vote_of:Callee P w K mg base 1 (Str.ofString "vote_of") 1 fR:=zH T D_vote_of
 have C_gate_mask:Callee P w K mg base 2 (Str.ofString "gate_mask") 3 fO:=uu T D_gate_mask C_vote_of
 have XK_in_wire_masks:az P w K mg base cl 1 (Str.ofString "in_wire_masks") 4 cX:=pd T D_in_wire_masks
 have XP_in_wire_masks:az P w K mg base cl 1 (Str.ofString "in_wire_masks") 4 oy:=XK_in_wire_masks.p
 have C_masks_at:Callee P w K mg base 1 (Str.ofString "masks_at") 2 eF:=v7 T D_masks_at
 have XK_wire_masks:az P w K mg base cl 3 (Str.ofString "wire_masks") 5 lQ:=tW T D_wire_masks C_masks_at C_gate_mask XK_in_wire_masks
 have XP_wire_masks:az P w K mg base cl 3 (Str.ofString "wire_masks") 5 dy:=XK_wire_masks.p
 have XK_out_masks:az P w K mg base cl 2 (Str.ofString "out_masks") 2 m4:=ug T D_out_masks C_masks_at
 have XP_out_masks:az P w K mg base cl 2 (Str.ofString "out_masks") 2 dY:=XK_out_masks.p
 have XK_run:az P w K mg base cl 4 (Str.ofString "run") 4 Cd:=Hk T D_run XP_out_masks XP_wire_masks
 have XP_run:az P w K mg base cl 4 (Str.ofString "run") 4 n5:=XK_run.p
 have C_reading:Callee P w K mg base 2 (Str.ofString "reading") 2 fP:=ze T D_reading C_vote_of
 have C_bit_at:Callee P w K mg base 1 (Str.ofString "bit_at") 2 eL:=BR T D_bit_at
 have C_read_at:Callee P w K mg base 2 (Str.ofString "read_at") 2 fW:=zm T D_read_at C_bit_at
 have C_told:Callee P w K mg base 3 (Str.ofString "told") 1 mD:=E_ T D_told C_reading C_read_at
 have XK_all_inputs:az P w K mg base cl 1 (Str.ofString "all_inputs") 1 l5:=ua T D_all_inputs
 have XP_all_inputs:az P w K mg base cl 1 (Str.ofString "all_inputs") 1 fw:=XK_all_inputs.p
 have C_mask_of:Callee P w K mg base 1 (Str.ofString "mask_of") 1 fU:=zq T D_mask_of
 have C_in_mask:Callee P w K mg base 2 (Str.ofString "in_mask") 2 iy:=zE T D_in_mask C_mask_of
 have XK_Bench___init__:nR P w K mg base cl 3 0 (Str.ofString "Bench") 1 cf:=dF T D_Bench___init__ C_mask_of C_in_mask XP_all_inputs
 have XK_Bench_tells:dD P w K mg base cl 4 0 (Str.ofString "tells") 2 lz:=ft T D_Bench_tells XP_out_masks XP_wire_masks
 have XP_Bench_tells:dD P w K mg base cl 4 0 (Str.ofString "tells") 2 eJ:=XK_Bench_tells.p
 have XK_Bench_readings:dD P w K mg base cl 5 0 (Str.ofString "readings") 1 jb:=dM T D_Bench_readings C_reading XP_Bench_tells
 have XP_Bench_readings:dD P w K mg base cl 5 0 (Str.ofString "readings") 1 bN:=XK_Bench_readings.p
 have XK_Bench_column:dD P w K mg base cl 3 0 (Str.ofString "column") 1 kD:=eI T D_Bench_column C_read_at
 have XP_Bench_column:dD P w K mg base cl 3 0 (Str.ofString "column") 1 d4:=XK_Bench_column.p
 have XK_columns:az P w K mg base cl 6 (Str.ofString "columns") 1 qv:=zj T D_columns XK_Bench___init__ XP_Bench_readings XP_Bench_column
 have XP_columns:az P w K mg base cl 6 (Str.ofString "columns") 1 j_:=XK_columns.p
 have C_choices:Callee P w K mg base 5 (Str.ofString "choices") 2 (dH 4):=rL T D_choices 4
 have XK_Trial___init__:nR P w K mg base cl 6 1 (Str.ofString "Trial") 1 cg:=dJ T D_Trial___init__ XK_Bench___init__ XP_Bench_readings
 have XK_Trial_breaks_at:dD P w K mg base cl 6 1 (Str.ofString "breaks_at") 2 iB:=dt T D_Trial_breaks_at XP_Bench_readings
 have XP_Trial_breaks_at:dD P w K mg base cl 6 1 (Str.ofString "breaks_at") 2 bX:=XK_Trial_breaks_at.p
 have XK_Bench_inputs_in:dD P w K mg base cl 2 0 (Str.ofString "inputs_in") 1 iX:=dg T D_Bench_inputs_in C_bit_at
 have XP_Bench_inputs_in:dD P w K mg base cl 2 0 (Str.ofString "inputs_in") 1 bW:=XK_Bench_inputs_in.p
 have XK_bears:az P w K mg base cl 8 (Str.ofString "bears") 3 uj:=Dc T D_bears C_choices XK_Trial___init__ XP_Trial_breaks_at XP_Bench_inputs_in
 have XP_bears:az P w K mg base cl 8 (Str.ofString "bears") 3 lu:=XK_bears.p
 have XK_matters:az P w K mg base cl 8 (Str.ofString "matters") 1 ku:=y9 T D_matters XK_Trial___init__ XP_Trial_breaks_at XP_Bench_inputs_in
 have XP_matters:az P w K mg base cl 8 (Str.ofString "matters") 1 mM:=XK_matters.p
 have C_law_cell_at:Callee P w K mg base 1 (Str.ofString "_law_cell_at") 2 d8:=rC T D_law_cell_at
 have XK_law_reel:az P w K mg base cl 1 (Str.ofString "_law_reel") 1 eH:=we T D_law_reel
 have XP_law_reel:az P w K mg base cl 1 (Str.ofString "_law_reel") 1 vJ:=XK_law_reel.p
 have XK_law_take:az P w K mg base cl 1 (Str.ofString "_law_take") 2 oX:=xn T D_law_take
 have XP_law_take:az P w K mg base cl 1 (Str.ofString "_law_take") 2 aF:=XK_law_take.p
 have XK_law_names:az P w K mg base cl 2 (Str.ofString "_law_names") 2 nC:=vb T D_law_names XP_law_take
 have XP_law_names:az P w K mg base cl 2 (Str.ofString "_law_names") 2 gn:=XK_law_names.p
 have XK_law_gate:az P w K mg base cl 2 (Str.ofString "_law_gate") 3 o8:=wg T D_law_gate XP_law_take
 have XP_law_gate:az P w K mg base cl 2 (Str.ofString "_law_gate") 3 fX:=XK_law_gate.p
 have XK_law_again:az P w K mg base cl 2 (Str.ofString "_law_again") 3 mU:=va T D_law_again XP_law_take
 have XP_law_again:az P w K mg base cl 2 (Str.ofString "_law_again") 3 gf:=XK_law_again.p
 have XK_law_outs:az P w K mg base cl 2 (Str.ofString "_law_outs") 4 o4:=wa T D_law_outs XP_law_take
 have XP_law_outs:az P w K mg base cl 2 (Str.ofString "_law_outs") 4 gY:=XK_law_outs.p
 have XK_law_net:az P w K mg base cl 3 (Str.ofString "_law_net") 4 qe:=zF T D_law_net XP_law_names XP_law_take XK_law_reel XP_law_again XP_law_gate XP_law_outs
 have XP_law_net:az P w K mg base cl 3 (Str.ofString "_law_net") 4 jX:=XK_law_net.p
 have C_law_inputs:Callee P w K mg base 1 (Str.ofString "_law_inputs") 1 eM:=t_ T D_law_inputs
 have XK_law_kinds_at:az P w K mg base cl 5 (Str.ofString "_law_kinds_at") 3 kG:=p7 T D_law_kinds_at C_law_inputs C_told XP_run
 have XP_law_kinds_at:az P w K mg base cl 5 (Str.ofString "_law_kinds_at") 3 fB:=XK_law_kinds_at.p
 have C_law_first:Callee P w K mg base 1 (Str.ofString "_law_first") 2 dO:=ui T D_law_first
 exact(bM (cl:=cl) (N:=lY) (F:=rG) (k:=8) Fj.2 qC.2 F mX (fun cdv A outer s H E hr=>(av (aW mX.nd rfl (Or.inl rfl) (ba XK_law_reel hr (by decide) rfl (ae (aj (bR C_law_cell_at hr (by decide) rfl (ab (aa 0) (ab ah ak)) (aR (aR cw)))) aC) (af aA))) (av (aW mX.nd rfl (Or.inl rfl) (aj (wM (aa 0) (nU ah) (nU ah)))) (av (d3 PassesOwn.never rfl (cR (cG (aO oZ ah (aX dv rfl T.z_len PySem.boot_len (ab (aa 2) ak))) rfl T.z_range)) (bg mX.nd rfl (Or.inl rfl)) (aK (aW mX.nd rfl (Or.inl rfl) (oJ hJ (aj (aa 2)) (EY (ae (ba XP_law_take hr (by decide) rfl (ae (aI 1) (ae (aj (aO Eg ah ah)) aC)) (af (af aA))) aC)))))) (av (aW mX.nd rfl (Or.inr rfl) (ba XP_law_net hr (by decide) rfl (ae (aI 1) (ae (aj (aa 2)) (ae (aj (aJ (cU (bV (ab ah (ab ah (ab ah (ab ah (ab ah (ab ah (ab ah ak))))))))) (aO wH (aX dv rfl T.z_len PySem.boot_len (ab (aa 2) ak)) ah) (fun _ _=>rfl))) (ae (aj ah) aC)))) (af (af (af (af aA)))))) (av (aW mX.nd rfl (Or.inr rfl) (ba XP_columns hr (by decide) rfl (ae (aj (aa 4)) aC) (af aA))) (av (ka rfl mX.nd rfl rfl (cq.of (own:=[(Str.ofString "place")]) (kp:=[4]) (kn:=[(Str.ofString "net")]) (sc:=qC.1) (N:=lY) rfl rfl (by decide+kernel)) (cR (cG (aX dv rfl T.z_len PySem.boot_len (ab (aJ (aa 4) ah (fun _ _=>rfl)) ak)) rfl T.z_range)) (fun _ _ _=>(bg (show List.Nodup [(Str.ofString "place"),(Str.ofString "net")] from by decide+kernel) rfl (Or.inl rfl))) (fun _ _ _=>(nB (gm (yE (xC (aJ (aJ (aJ (aa 1) ah (fun _ _=>rfl)) (aa 0) (fun _ _=>rfl)) ah (fun _ _=>rfl))))))) (fun _ _ _=>(aj (aa 0)))) (av (ka rfl mX.nd rfl rfl (cq.of (own:=[(Str.ofString "place")]) (kp:=[4,5]) (kn:=[(Str.ofString "net"),(Str.ofString "due")]) (sc:=qC.1) (N:=lY) rfl rfl (by decide+kernel)) (cR (d7 (aa 6))) (fun _ _ _=>(bg (show List.Nodup [(Str.ofString "place"),(Str.ofString "net"),(Str.ofString "due")] from by decide+kernel) rfl (Or.inl rfl))) (fun _ _ _=>ip) (fun _ _ _=>(om (ae (aj (aa 0)) (ae (ba XP_law_kinds_at hr (by decide) rfl (ae (aj (aa 1)) (ae (aj (aa 0)) (ae (aj (aa 2)) aC))) (af (af (af aA)))) aC))))) (av (l0 (ye (Aa hr.units) (ba XP_matters hr (by decide) rfl (ae (aj (aa 4)) aC) (af aA)) (aj (cU (iO rfl (cq.of (own:=[(Str.ofString "place"),(Str.ofString "kinds")]) (kp:=[]) (kn:=[]) (sc:=qC.1) (N:=lY) rfl rfl (by decide+kernel)) (d7 (aa 7)) (fun _ _ _=>(kU rfl (dC (b_ (show List.Nodup [(Str.ofString "place"),(Str.ofString "kinds")] from by decide+kernel) rfl (Or.inl rfl)) (dC (b_ (show List.Nodup [(Str.ofString "place"),(Str.ofString "kinds")] from by decide+kernel) rfl (Or.inl rfl)) jT)))) (fun _ _ _=>ix) (fun _ _ _=>(cx (ab (aa 0) (ab (rM (aa 1) (ab ah ak)) (ab (rM (aa 1) (ab ah ak)) ak)))))))) (ck _)) (aK (cO (aj FI))) ke) (aK (cO (FW (s_ (jR hr.units) (ba XP_bears hr (by decide) rfl (ae (aj (aa 4)) (ae (aj ah) (ae (aj bA) aC))) (af (af (af aA)))) (aj (bR C_law_first hr (by decide) rfl (ab (aa 7) (ab ah ak)) (aR (aR cw)))) (ck _)) (EB (s_ (jR hr.units) (ba XP_bears hr (by decide) rfl (ae (aj (aa 4)) (ae (aj ah) (ae (aj bA) aC))) (af (af (af aA)))) (aj (bR C_law_first hr (by decide) rfl (ab (aa 7) (ab ah ak)) (aR (aR cw)))) (ck _)))))))))))))))).imp fun _ _ _ _ h=>EG h
end K19
end
section
set_option maxRecDepth 100000
set_option maxHeartbeats 4000000
namespace K19
open PySem PySem.Spec PyProof.Rows L2 L3
theorem jk{S:aN}{k:Nat}{o x:SO}(h:S[k]? =some x):(S.set k o)[k]? =some o:=by
 obtain⟨h1,_⟩:=List.getElem?_eq_some_iff.mp h
 rw[List.getElem?_set_self h1]
noncomputable def pE(k:Nat)(S:aN):Prop:=Flat S∧∃a c,S[k]? =some (.lst [.int a, .int c])
structure Ev (k:Nat) (S S1:aN):Prop where
 p:pE k S1
 len:S1.length=S.length
 oth:∀j,j≠k→S1[j]? =S[j]?
theorem pE.lt{k:Nat}{S:aN}(p:pE k S):k < S.length:=by
 obtain⟨_,a,c,e⟩:=p
 exact(List.getElem?_eq_some_iff.mp e).1
theorem l7(ds:List D):∀n,lN n (.lst ds)=true:=fun _=>rfl
theorem t7{a b:Int}(h:0 < b)(h2:b.natAbs.log2 < 9000):sH (.int a) (.int b)= .ok (.int (a / b)):=by unfold sH vM;exact bU _ ⟨h,h2⟩
theorem rH{m:Int}(h0:0 < m)(h:m < 1000000):m.natAbs.log2 < 9000:=by
 have h1:m.natAbs≠0:=by omega
 have:m.natAbs.log2 < 20:=(Nat.log2_lt h1).mpr (by omega)
 omega
theorem tu{S:aN}{k:Nat}{m:Int}(p:pE k S)(hm:0 < m)(hm2:m.natAbs.log2 < 9000){Q:V3→aN→Prop}
 (h:∀(r:Int) S1,0≤r→r < m→Ev k S S1→Q (.d (.int r)) S1):W3 (aF [.loc k, .d (.int m)] S) Q:=by
 obtain⟨hL,a,c,e⟩:=p
 have fin:∀(r:Int) S2,0≤r→r < m→Ev k S S2→Flat S2∧d9 S.length (.d (.int r))=true∧∃d,res S2 (.d (.int r))=some d∧Q (.d d) (S2.take S.length):=fun r S2 h1 h2 v=>by
  refine⟨v.p.1,by unfold d9;rfl, .int r,by unfold res;rfl,?_⟩
  rw[List.take_of_length_le (by have:=v.len;omega)]
  exact h r S2 h1 h2 v
 have h0:cD (.lst [.int a, .int c]) (.int 0)= .ok (.int a):=rfl
 have h1:cD (.lst [.int a, .int c]) (.int 1)= .ok (.int c):=rfl
 unfold aF
 refine qg (qX rfl ?_)
 simp only[bG,ko,List.map_cons,List.map_nil,List.length_cons,List.length_nil,List.replicate,List.cons_append,List.nil_append,Nat.reduceAdd,Nat.reduceSub]
 unfold mC
 by_cases hc:(1000000000000000000:Int)≤a
 ·refine EL (q8 (Fb (b:=true) ?_ ?_))
  ·simp (implicitDefEqProofs:=false) (disch:=first | omega | decide) only[nP,cJ,el,ib,nc,n0,o3,uR,pA,er,pj,jz,uV,ai,eC,e2,eNew,oY,aP,dU,wW,wj,sf,jc,vV,vv,Eu,uN,uK,um,ql,Bb,b2,o5,mE,xw,mm,ma,dA,nList,aL,au,uo,o7,kB,hW,e_,jG,oR,jo,pR,oI,zX,Ex,xH,zT,nh,vM,ym,mw,jC,rn,qM,lx,cInt,cStr,qS,fH,oO,cP,tV,pW,aY,eY,b3,eZ,ji,iS,rB,D.atom,tyName,R.aM,R.fM,List.map_cons,List.map_nil,List.map_append,List.set_cons_zero,List.set_cons_succ,List.getElem?_cons_zero,List.getElem?_cons_succ,List.length_cons,List.length_nil,List.nil_append,List.cons_append,List.append_nil,List.length_map,List.length_append,List.replicate,Nat.reduceAdd,Nat.reduceSub,Nat.zero_add,decide_true,decide_false,Nat.lt_add_one,Nat.reduceLT,Nat.reduceLeDiff,Nat.reduceEqDiff,if_true,if_false,Bool.false_eq_true,ite_true,ite_false,Bool.true_or,Bool.or_true,Bool.true_and,Bool.and_true,beq_self_eq_true,down,bY,res,mh,bG,fY,kX,i7,yy,uZ,zp,Option.map_some,Option.bind_some,gz,c_,qa,ky,iL,j7,bU,decide_eq_true_eq,Int.reduceToNat,e,h0]
   simp [hc]
  rw[if_pos rfl]
  refine aS (bz (by simp only[List.length_cons,List.length_nil,List.length_set];omega) (tG (d:= .int (a % m)) ?_ rfl ⟨_,rfl,?_⟩))
  ·simp (implicitDefEqProofs:=false) (disch:=first | omega | decide) only[nP,cJ,el,ib,nc,n0,o3,uR,pA,er,pj,jz,uV,ai,eC,e2,eNew,oY,aP,dU,wW,wj,sf,jc,vV,vv,Eu,uN,uK,um,ql,Bb,b2,o5,mE,xw,mm,ma,dA,nList,aL,au,uo,o7,kB,hW,e_,jG,oR,jo,pR,oI,zX,Ex,xH,zT,nh,vM,ym,mw,jC,rn,qM,lx,cInt,cStr,qS,fH,oO,cP,tV,pW,aY,eY,b3,eZ,ji,iS,rB,D.atom,tyName,R.aM,R.fM,List.map_cons,List.map_nil,List.map_append,List.set_cons_zero,List.set_cons_succ,List.getElem?_cons_zero,List.getElem?_cons_succ,List.length_cons,List.length_nil,List.nil_append,List.cons_append,List.append_nil,List.length_map,List.length_append,List.replicate,Nat.reduceAdd,Nat.reduceSub,Nat.zero_add,decide_true,decide_false,Nat.lt_add_one,Nat.reduceLT,Nat.reduceLeDiff,Nat.reduceEqDiff,if_true,if_false,Bool.false_eq_true,ite_true,ite_false,Bool.true_or,Bool.or_true,Bool.true_and,Bool.and_true,beq_self_eq_true,down,bY,res,mh,bG,fY,kX,i7,yy,uZ,zp,Option.map_some,Option.bind_some,gz,c_,qa,ky,iL,j7,bU,decide_eq_true_eq,Int.reduceToNat,e,h0]
  simp only[List.set_cons_succ,List.set_cons_zero]
  refine aS (BK (tG (d:= .int (a / m)) ?_ rfl (w_var (v:= .loc k) rfl (cA (d:= .int 0) rfl ⟨_,k,0,_,0,rfl,rfl,rfl,e,rfl,_,rfl,?_⟩))))
  ·refine aD (a:= .int a) (b:= .int m) ?_ rfl (t7 hm hm2)
   simp (implicitDefEqProofs:=false) (disch:=first | omega | decide) only[nP,cJ,el,ib,nc,n0,o3,uR,pA,er,pj,jz,uV,ai,eC,e2,eNew,oY,aP,dU,wW,wj,sf,jc,vV,vv,Eu,uN,uK,um,ql,Bb,b2,o5,mE,xw,mm,ma,dA,nList,aL,au,uo,o7,kB,hW,e_,jG,oR,jo,pR,oI,zX,Ex,xH,zT,nh,vM,ym,mw,jC,rn,qM,lx,cInt,cStr,qS,fH,oO,cP,tV,pW,aY,eY,b3,eZ,ji,iS,rB,D.atom,tyName,R.aM,R.fM,List.map_cons,List.map_nil,List.map_append,List.set_cons_zero,List.set_cons_succ,List.getElem?_cons_zero,List.getElem?_cons_succ,List.length_cons,List.length_nil,List.nil_append,List.cons_append,List.append_nil,List.length_map,List.length_append,List.replicate,Nat.reduceAdd,Nat.reduceSub,Nat.zero_add,decide_true,decide_false,Nat.lt_add_one,Nat.reduceLT,Nat.reduceLeDiff,Nat.reduceEqDiff,if_true,if_false,Bool.false_eq_true,ite_true,ite_false,Bool.true_or,Bool.or_true,Bool.true_and,Bool.and_true,beq_self_eq_true,down,bY,res,mh,bG,fY,kX,i7,yy,uZ,zp,Option.map_some,Option.bind_some,gz,c_,qa,ky,iL,j7,bU,decide_eq_true_eq,Int.reduceToNat,e,h0]
  refine ef (cA (d:= .int (a % m)) rfl ⟨_,rfl,_,rfl,?_⟩)
  exact fin _ _ (Int.emod_nonneg _ (by omega)) (Int.emod_lt_of_pos _ hm) ⟨⟨hL.set _ (l7 _),_,_,jk e⟩,List.length_set,fun j hj=>List.getElem?_set_ne (Ne.symm hj)⟩
 ·refine aS (q8 (Fb (b:=false) ?_ ?_))
  ·simp (implicitDefEqProofs:=false) (disch:=first | omega | decide) only[nP,cJ,el,ib,nc,n0,o3,uR,pA,er,pj,jz,uV,ai,eC,e2,eNew,oY,aP,dU,wW,wj,sf,jc,vV,vv,Eu,uN,uK,um,ql,Bb,b2,o5,mE,xw,mm,ma,dA,nList,aL,au,uo,o7,kB,hW,e_,jG,oR,jo,pR,oI,zX,Ex,xH,zT,nh,vM,ym,mw,jC,rn,qM,lx,cInt,cStr,qS,fH,oO,cP,tV,pW,aY,eY,b3,eZ,ji,iS,rB,D.atom,tyName,R.aM,R.fM,List.map_cons,List.map_nil,List.map_append,List.set_cons_zero,List.set_cons_succ,List.getElem?_cons_zero,List.getElem?_cons_succ,List.length_cons,List.length_nil,List.nil_append,List.cons_append,List.append_nil,List.length_map,List.length_append,List.replicate,Nat.reduceAdd,Nat.reduceSub,Nat.zero_add,decide_true,decide_false,Nat.lt_add_one,Nat.reduceLT,Nat.reduceLeDiff,Nat.reduceEqDiff,if_true,if_false,Bool.false_eq_true,ite_true,ite_false,Bool.true_or,Bool.or_true,Bool.true_and,Bool.and_true,beq_self_eq_true,down,bY,res,mh,bG,fY,kX,i7,yy,uZ,zp,Option.map_some,Option.bind_some,gz,c_,qa,ky,iL,j7,bU,decide_eq_true_eq,Int.reduceToNat,e,h0]
   simp [hc]
  rw[if_neg (by decide)]
  refine oj ⟨_,rfl,?_⟩
  refine aS (BK (tG (d:= .int ((c*48271+11) % 2147483647)) ?_ rfl (w_var (v:= .loc k) rfl (cA (d:= .int 1) rfl ⟨_,k,1,_,1,rfl,rfl,rfl,e,rfl,_,rfl,?_⟩))))
  ·simp (implicitDefEqProofs:=false) (disch:=first | omega | decide) only[nP,cJ,el,ib,nc,n0,o3,uR,pA,er,pj,jz,uV,ai,eC,e2,eNew,oY,aP,dU,wW,wj,sf,jc,vV,vv,Eu,uN,uK,um,ql,Bb,b2,o5,mE,xw,mm,ma,dA,nList,aL,au,uo,o7,kB,hW,e_,jG,oR,jo,pR,oI,zX,Ex,xH,zT,nh,vM,ym,mw,jC,rn,qM,lx,cInt,cStr,qS,fH,oO,cP,tV,pW,aY,eY,b3,eZ,ji,iS,rB,D.atom,tyName,R.aM,R.fM,List.map_cons,List.map_nil,List.map_append,List.set_cons_zero,List.set_cons_succ,List.getElem?_cons_zero,List.getElem?_cons_succ,List.length_cons,List.length_nil,List.nil_append,List.cons_append,List.append_nil,List.length_map,List.length_append,List.replicate,Nat.reduceAdd,Nat.reduceSub,Nat.zero_add,decide_true,decide_false,Nat.lt_add_one,Nat.reduceLT,Nat.reduceLeDiff,Nat.reduceEqDiff,if_true,if_false,Bool.false_eq_true,ite_true,ite_false,Bool.true_or,Bool.or_true,Bool.true_and,Bool.and_true,beq_self_eq_true,down,bY,res,mh,bG,fY,kX,i7,yy,uZ,zp,Option.map_some,Option.bind_some,gz,c_,qa,ky,iL,j7,bU,decide_eq_true_eq,Int.reduceToNat,e,h1]
  have hx1:0≤(c*48271+11) % 2147483647:=Int.emod_nonneg _ (by omega)
  have hx2:(c*48271+11) % 2147483647 < 2147483647:=Int.emod_lt_of_pos _ (by omega)
  generalize (c*48271+11) % 2147483647=x at hx1 hx2
  simp only[List.set_cons_succ,List.set_cons_zero]
  have e1:(S.set k (.lst [.int a, .int x]))[k]? =some (.lst [.int a, .int x]):=jk e
  have v1:Ev k S (S.set k (.lst [.int a, .int x])):=⟨⟨hL.set _ (l7 _),_,_,e1⟩,List.length_set,fun j hj=>List.getElem?_set_ne (Ne.symm hj)⟩
  generalize S.set k (.lst [.int a, .int x])=S1 at e1 v1
  refine aS (bz (by simp only[List.length_cons,List.length_nil,List.length_set];omega) (tG (d:= .int (x*x % 2147483629)) ?_ rfl ⟨_,rfl,?_⟩))
  ·have h2:cD (.lst [.int a, .int x]) (.int 1)= .ok (.int x):=rfl
   simp (implicitDefEqProofs:=false) (disch:=first | omega | decide) only[nP,cJ,el,ib,nc,n0,o3,uR,pA,er,pj,jz,uV,ai,eC,e2,eNew,oY,aP,dU,wW,wj,sf,jc,vV,vv,Eu,uN,uK,um,ql,Bb,b2,o5,mE,xw,mm,ma,dA,nList,aL,au,uo,o7,kB,hW,e_,jG,oR,jo,pR,oI,zX,Ex,xH,zT,nh,vM,ym,mw,jC,rn,qM,lx,cInt,cStr,qS,fH,oO,cP,tV,pW,aY,eY,b3,eZ,ji,iS,rB,D.atom,tyName,R.aM,R.fM,List.map_cons,List.map_nil,List.map_append,List.set_cons_zero,List.set_cons_succ,List.getElem?_cons_zero,List.getElem?_cons_succ,List.length_cons,List.length_nil,List.nil_append,List.cons_append,List.append_nil,List.length_map,List.length_append,List.replicate,Nat.reduceAdd,Nat.reduceSub,Nat.zero_add,decide_true,decide_false,Nat.lt_add_one,Nat.reduceLT,Nat.reduceLeDiff,Nat.reduceEqDiff,if_true,if_false,Bool.false_eq_true,ite_true,ite_false,Bool.true_or,Bool.or_true,Bool.true_and,Bool.and_true,beq_self_eq_true,down,bY,res,mh,bG,fY,kX,i7,yy,uZ,zp,Option.map_some,Option.bind_some,gz,c_,qa,ky,iL,j7,bU,decide_eq_true_eq,Int.reduceToNat,e1,h2]
  simp only[List.set_cons_succ,List.set_cons_zero]
  generalize x*x % 2147483629=y
  refine ef (cA (d:= .int (y*69621 % 2147483587 / 8 % m)) ?_ ⟨_,rfl,?_⟩)
  ·refine aD (a:= .int (y*69621 % 2147483587 / 8)) (b:= .int m) (aD (a:= .int (y*69621 % 2147483587)) (b:= .int 8) ?_ rfl (t7 (by omega) (by decide))) rfl (wO hm)
   simp (implicitDefEqProofs:=false) (disch:=first | omega | decide) only[nP,cJ,el,ib,nc,n0,o3,uR,pA,er,pj,jz,uV,ai,eC,e2,eNew,oY,aP,dU,wW,wj,sf,jc,vV,vv,Eu,uN,uK,um,ql,Bb,b2,o5,mE,xw,mm,ma,dA,nList,aL,au,uo,o7,kB,hW,e_,jG,oR,jo,pR,oI,zX,Ex,xH,zT,nh,vM,ym,mw,jC,rn,qM,lx,cInt,cStr,qS,fH,oO,cP,tV,pW,aY,eY,b3,eZ,ji,iS,rB,D.atom,tyName,R.aM,R.fM,List.map_cons,List.map_nil,List.map_append,List.set_cons_zero,List.set_cons_succ,List.getElem?_cons_zero,List.getElem?_cons_succ,List.length_cons,List.length_nil,List.nil_append,List.cons_append,List.append_nil,List.length_map,List.length_append,List.replicate,Nat.reduceAdd,Nat.reduceSub,Nat.zero_add,decide_true,decide_false,Nat.lt_add_one,Nat.reduceLT,Nat.reduceLeDiff,Nat.reduceEqDiff,if_true,if_false,Bool.false_eq_true,ite_true,ite_false,Bool.true_or,Bool.or_true,Bool.true_and,Bool.and_true,beq_self_eq_true,down,bY,res,mh,bG,fY,kX,i7,yy,uZ,zp,Option.map_some,Option.bind_some,gz,c_,qa,ky,iL,j7,bU,decide_eq_true_eq,Int.reduceToNat]
  exact fin _ _ (Int.emod_nonneg _ (by omega)) (Int.emod_lt_of_pos _ hm) v1
section
variable {S:aN} {δ:DE} {k i:Nat}
theorem draw{Q:V3→aN→Prop}{f:FD}{m:Int}(hv:δ[i]? =some (some (.loc k)))(p:pE k S)(hf:f (down δ)= .ok (.int m))(hm:0 < m)(hm2:m < 1000000)
 (h:∀(r:Int) S1,0≤r→r < m→Ev k S S1→Q (.d (.int r)) S1):W3 (bO aF (aw (bC i) (aw (xP f) bH)) δ S) Q:=
 dc (ay (w_var hv (ay (cA hf (bS (tu p hm (rH hm hm2) h))))))
theorem Ep{Q:V3→aN→Prop}{m:Int}(hv:δ[i]? =some (some (.loc k)))(p:pE k S)(hm:0 < m)(hm2:m < 1000000)
 (h:∀(r:Nat) S1,1≤r→(r:Int)≤m→Ev k S S1→Q (.d (.int r)) S1):W3 (x2 e_ (xP (eC (.int 1))) (bO aF (aw (bC i) (aw (xP (eC (.int m))) bH))) δ S) Q:=
 zV (cA rfl (draw hv p rfl hm hm2 fun r S1 h1 h2 v=>⟨_,_, .int ((1+r).toNat:Nat),rfl,rfl,by rw[Int.toNat_of_nonneg (by omega)];rfl,h _ S1 (by omega) (by omega) v⟩))
end
theorem yg(c:Int){S:aN}{Q:V3→aN→Prop}(hS:Flat S)(h:∀S1,pE S.length S1→S1.length=S.length+1→(∀j,j < S.length→S1[j]? =S[j]?)→Q (.loc S.length) S1):W3 (eH [.d (.int c)] S) Q:=by
 have hz:sizeLine=16777216:=sizeLine_eq
 unfold eH
 refine qX rfl ?_
 simp only[bG,j0,List.map_cons,List.map_nil,List.length_cons,List.length_nil,List.replicate,List.cons_append,List.nil_append,Nat.reduceAdd,Nat.reduceSub]
 unfold mH
 refine ef (iC (ds:=[.int (if c < 0 then -c else c), .int ((c % 2147483647+1)*742938285 % 2147483647)]) ?_ ⟨_,rfl,?_⟩)
 ·simp (implicitDefEqProofs:=false) (disch:=first | omega | decide) only[nP,cJ,el,ib,nc,n0,o3,uR,pA,er,pj,jz,uV,ai,eC,e2,eNew,oY,aP,dU,wW,wj,sf,jc,vV,vv,Eu,uN,uK,um,ql,Bb,b2,o5,mE,xw,mm,ma,dA,nList,aL,au,uo,o7,kB,hW,e_,jG,oR,jo,pR,oI,zX,Ex,xH,zT,nh,vM,ym,mw,jC,rn,qM,lx,cInt,cStr,qS,fH,oO,cP,tV,pW,aY,eY,b3,eZ,ji,iS,rB,D.atom,tyName,R.aM,R.fM,List.map_cons,List.map_nil,List.map_append,List.set_cons_zero,List.set_cons_succ,List.getElem?_cons_zero,List.getElem?_cons_succ,List.length_cons,List.length_nil,List.nil_append,List.cons_append,List.append_nil,List.length_map,List.length_append,List.replicate,Nat.reduceAdd,Nat.reduceSub,Nat.zero_add,decide_true,decide_false,Nat.lt_add_one,Nat.reduceLT,Nat.reduceLeDiff,Nat.reduceEqDiff,if_true,if_false,Bool.false_eq_true,ite_true,ite_false,Bool.true_or,Bool.or_true,Bool.true_and,Bool.and_true,beq_self_eq_true,down,bY,res,mh,bG,fY,kX,i7,yy,uZ,zp,Option.map_some,Option.bind_some,gz,c_,qa,ky,iL,j7,bU,decide_eq_true_eq,Int.reduceToNat,cAbs]
 refine h _ ⟨hS.push (l7 _),_,_,by rw[List.getElem?_append_right (Nat.le_refl _),Nat.sub_self];rfl⟩ (by simp) fun j hj=>List.getElem?_append_left hj
end K19
end
section
set_option maxRecDepth 100000
set_option maxHeartbeats 4000000
namespace K19
open PySem PySem.Spec PyProof.Rows L2 L3 MT
theorem yM{a:D}{r:List D}:cD (.tup (a ::r)) (.int 0)= .ok a:=sU (by rw[i3 (by omega) (by simp)];rfl)
theorem zU{a b:D}{r:List D}:cD (.tup (a ::b ::r)) (.int 1)= .ok b:=sU (by rw[i3 (by omega) (by simp)];rfl)
theorem Kg{a b c:D}{r:List D}:cD (.tup (a ::b ::c ::r)) (.int 2)= .ok c:=sU (by rw[i3 (by omega) (by simp)];rfl)
theorem x6{N:Nat}{a b c:M}:fR [.tup [mI N a,mI N b,mI N c]]= .ok (mI N fun p=>(a p && b p) || (a p && c p) || (b p && c p)):=by
 unfold fR r_
 refine c7 (cB ?_)
 exact aD (aD (aD (aD rfl rfl yM) (aD rfl rfl zU) (pU N a b)) (aD (aD rfl rfl yM) (aD rfl rfl Kg) (pU N a c)) (vP N _ _)) (aD (aD rfl rfl zU) (aD rfl rfl Kg) (pU N b c)) (vP N _ _)
theorem Hz(k j:Nat)(hk:k≤4)(hj:j≤4):jC (.str (kS k)) (.str (kS j))= .ok (.bl (decide (k=j))):=by
 show R.ok (D.bl (kS k==kS j))=_
 congr 2
 revert hk hj
 have:∀a∈List.range 5,∀b∈List.range 5,(kS a==kS b)=decide (a=b):=by decide+kernel
 intro hk hj
 exact this k (by rw[List.mem_range];omega) j (by rw[List.mem_range];omega)
theorem DC{N kd:Nat}{xs:List M}(hk:kd≤4)(hx:xs.length=ar kd):fO [.str (kS kd), .tup (xs.map (mI N)),mI N one]= .ok (mI N fun p=>gv kd (xs.map (· p))):=by
 unfold fO oM
 have q:∀j,j≤4→b2 jC (ai 0) (eC (.str (kS j))) (cJ lj [.str (kS kd), .tup (xs.map (mI N)),mI N one])= .ok (decide (kd=j)):=fun j hj=>fk (a:= .str (kS kd)) (b:= .str (kS j)) rfl rfl (Hz kd j hk hj)
 have q0:=q 0 (by omega)
 have q1:=q 1 (by omega)
 have q2:=q 2 (by omega)
 have q3:=q 3 (by omega)
 match kd,hk,xs,hx with
 | 0,_,[a],_=>
   refine c7 (NT.ia (lV q0 (cB (aD (a:=mI N one) (b:=mI N a) rfl (aD rfl rfl yM) (uA N a)))))
 | 1,_,[a,b],_=>
   refine c7 (bK (gA q0 rfl) (NT.ia (lV q1 (cB (aD (aD rfl rfl yM) (aD rfl rfl zU) (pU N a b))))))
 | 2,_,[a,b],_=>
   refine c7 (bK (gA q0 rfl) (bK (gA q1 rfl) (NT.ia (lV q2 (cB (aD (aD rfl rfl yM) (aD rfl rfl zU) (vP N a b)))))))
 | 3,_,[a,b],_=>
   refine c7 (bK (gA q0 rfl) (bK (gA q1 rfl) (bK (gA q2 rfl) (NT.ia (lV q3 (cB (aD (aD rfl rfl yM) (aD rfl rfl zU) (vH N a b))))))))
 | 4,_,[a,b,c],_=>
   refine c7 (bK (gA q0 rfl) (bK (gA q1 rfl) (bK (gA q2 rfl) (bK (gA q3 rfl) (cB (aT (ds:=[.tup [mI N a,mI N b,mI N c]]) rfl x6))))))
theorem Ew{N:Nat}{ws:List M}{ns:List Nat}(hn:∀n∈ns,n < ws.length)(hl:ns.length < 1000):eF [.lst (ws.map (mI N)), .tup (ns.map nI)]= .ok (.tup ((ns.map (iI ws)).map (mI N))):=by
 have hz:sizeLine=16777216:=sizeLine_eq
 unfold eF qd
 refine c7 (cB (aT (ds:=[.lst ((ns.map (iI ws)).map (mI N))]) (aQ (gb (gR (ds:=ns.map nI) (Fm rfl) (by rw[List.length_map];omega) ?_)) rfl) rfl))
 rw[List.map_map]
 exact NT.fI nI _ fun n hn'=>⟨[.val (nI n), .val (.lst (ws.map (mI N)))],rfl,rfl,aD (a:= .lst (ws.map (mI N))) (b:=nI n) rfl rfl (Gv (hn n hn'))⟩
noncomputable def xq(N:Nat)(S:aN)(insD bitsD badD:D)(a5 a6 a7:Option V3):DE:=[some (.d insD),some (.d bitsD),some (.d (mI N one)),some (.d badD),some (.loc S.length),a5,a6,a7]
theorem AM{N:Nat}{S:aN}{insD bitsD:D}{bad:List Int}{a5 a7:Option V3}{b:M}{ws:List M}(hl:ws.length < 10000) :
 W3 (gu (xq N S insD bitsD (.tup (bad.map .int)) a5 (some (.d (mI N b))) a7) (S++[.lst (ws.map (mI N))])) fun o S1=>o= .nx (xq N S insD bitsD (.tup (bad.map .int)) a5 (some (.d (mI N b))) a7)∧S1=S++[SO.lst ((ws++[fun p=>b p !=bad.contains (ws.length:Int)]).map (mI N))]:=by
 have hz:sizeLine=16777216:=sizeLine_eq
 unfold gu
 refine gW (k:=S.length) rfl ⟨_,bt _ _⟩ (tG (d:=mI N fun p=>b p !=bad.contains (ws.length:Int)) ?_ rfl ⟨_,_,rfl,bt _ _,by rw[List.length_map];omega,rfl,?_⟩)
 ·have h4:(bY (S++[.lst (ws.map (mI N))]) (xq N S insD bitsD (.tup (bad.map .int)) a5 (some (.d (mI N b))) a7))[4]? =some (.val (.lst (ws.map (mI N)))):=by
   unfold bY xq
   show some (match res (S++[.lst (ws.map (mI N))]) (.loc S.length) with | some d=>Sl.val d | none=> .un)=_
   unfold res
   rw[bt]
  refine sR (b:=bad.contains (ws.length:Int)) (fk (a:= .int ws.length) (b:= .tup (bad.map .int)) (aT (ds:=[.lst (ws.map (mI N))]) (aQ (by unfold ai;rw [h4]) rfl) (by rw[kL,List.length_map])) rfl (xN _ _)) ?_
  rw[←z8]
  rfl
 ·rw[d6,List.map_append];rfl
theorem uM{N:Nat}{S:aN}{bD:D}{ins:List (Str × Nat)}{bits:List M}{bad:List Int}(hB:bD= .lst (bits.map (mI N))∨bD= .tup (bits.map (mI N)))(hb:bits.length=ins.length)(hi:ins.length < 100)(hw:∀x∈ins,x.2 < 100){Q:V3→aN→Prop}
 (h:Q (.loc S.length) (S++[.lst ((c9 ins bits bad ins.length).map (mI N))])) :
 W3 (cX [.d (.lst (ins.map inD)), .d bD, .d (mI N one), .d (.tup (bad.map .int))] S) Q:=by
 have hz:sizeLine=16777216:=sizeLine_eq
 unfold cX
 refine qX rfl ?_
 simp only[bG,fE,List.map_cons,List.map_nil,List.length_cons,List.length_nil,List.replicate,List.cons_append,List.nil_append,Nat.reduceAdd,Nat.reduceSub]
 unfold g9
 refine aS (bz (by simp only[List.length_cons,List.length_nil,List.length_set];omega) (iC (ds:=[]) rfl ⟨_,rfl,?_⟩))
 simp only[List.set_cons_succ,List.set_cons_zero]
 refine aS (f7 (lO (ds:=di (bits.map (mI N))) (by rcases hB with rfl | rfl <;> rfl) ?_))
 have big:∀i,i≤ins.length→(c9 ins bits bad i).length≤100*i:=by
  intro i hi'
  induction i with
  | zero=>simp [c9]
  | succ i ih=>
    have ih:=ih (by omega)
    have h1:ins[i]? =some ins[i]:=List.getElem?_eq_getElem (by omega)
    have h2:bits[i]? =some bits[i]:=List.getElem?_eq_getElem (by omega)
    unfold c9
    rw[h1,h2]
    show(gh bad bits[i] ins[i].2 (c9 ins bits bad i)).length≤_
    rw[gC]
    have:=hw ins[i] (List.getElem_mem _)
    omega
 refine(cv (fun i δ S2=>(∃a b c,δ=xq N S (.lst (ins.map inD)) bD (.tup (bad.map .int)) a b c)∧S2=S++[SO.lst ((c9 ins bits bad i).map (mI N))])
  ⟨⟨_,_,_,rfl⟩,rfl⟩ ?_).mono fun o S2 ⟨δ2,e2',⟨a,b,c,hδ⟩,hS⟩=>⟨δ2,e2',?_⟩
 ·rintro i v δ S2 hv ⟨⟨a,b,c,rfl⟩,rfl⟩
  obtain⟨d,hd,rfl⟩:=tp hv
  rw[List.getElem?_map] at hd
  have hib:i < bits.length:=by
   have:=(List.getElem?_eq_some_iff.mp hv).1
   simpa [di] using this
  have h1:ins[i]? =some ins[i]:=List.getElem?_eq_getElem (by omega)
  have h2:bits[i]? =some bits[i]:=List.getElem?_eq_getElem hib
  rw[h2] at hd
  cases hd
  refine⟨xq N S (.lst (ins.map inD)) bD (.tup (bad.map .int)) (some (.d (.int i))) (some (.d (mI N bits[i]))) c,rfl,?_⟩
  unfold jd
  have hwi:=hw ins[i] (List.getElem_mem _)
  refine f7 (lO (gq (n:=ins[i].2) ?_ (by omega)) ?_)
  ·refine aD (a:=inD ins[i]) (b:= .int 1) (aD (a:= .lst (ins.map inD)) (b:= .int i) rfl rfl (jB ?_)) rfl rfl
   rw[i3 (by omega) (by rw[List.length_map,Int.toNat_natCast];omega)]
   simp
  refine(cv (fun j δ S3=>(∃c,δ=xq N S (.lst (ins.map inD)) bD (.tup (bad.map .int)) (some (.d (.int i))) (some (.d (mI N bits[i]))) c)∧S3=S++[SO.lst ((gh bad bits[i] j (c9 ins bits bad i)).map (mI N))])
   ⟨⟨_,rfl⟩,rfl⟩ ?_).mono fun o S3 ⟨δ3,e3,⟨c3,hδ3⟩,hS3⟩=>⟨δ3,e3,⟨_,_,c3,hδ3⟩,?_⟩
  ·rintro j v δ S3 hv ⟨⟨c3,rfl⟩,rfl⟩
   refine⟨_,rfl,?_⟩
   have hj:j < ins[i].2:=by
    have:=(List.getElem?_eq_some_iff.mp hv).1
    rwa [List.length_map,cH,List.length_map,List.length_range] at this
   refine(AM ?_).mono fun o S4 ⟨e4,e5⟩=>⟨_,e4,⟨_,rfl⟩,e5⟩
   rw[gC]
   have:=big i (by omega)
   omega
  ·rw[hS3,List.length_map,cH,List.length_map,List.length_range]
   show _=S++[SO.lst ((match ins[i]?,bits[i]? with | some x,some b=>gh bad b x.2 (c9 ins bits bad i) | _,_=>c9 ins bits bad i).map (mI N))]
   rw[h1,h2]
 have hlen:((di (bits.map (mI N))).map V3.d).length=ins.length:=by simp [di,hb]
 rw[hlen] at hS
 subst hδ hS
 exact ef (w_var rfl ⟨_,rfl,h⟩)
section
variable {N:Nat} {ins:List (Str × Nat)} {gs:List Gt} {os:List (Str × List Nat)} {bits:List M} {turned bad:List Int}
noncomputable def uf(N:Nat)(S:aN)(nt bitsD tD bD:D)(a6 a7 a8:Option V3):DE:=[some (.d nt),some (.d bitsD),some (.d (mI N one)),some (.d tD),some (.d bD),some (.loc S.length),a6,a7,a8]
theorem yT{S:aN}{nt bitsD bD:D}{a8:Option V3}{g:Gt}{i:Nat}{ws:List M}(hg:mN ws.length g)(hl:ws.length < 20000) :
 W3 (iH (uf N S nt bitsD (.tup (turned.map .int)) bD (some (.d (.int i))) (some (.d (gZ g))) a8) (S++[.lst (ws.map (mI N))])) fun o S1=>(∃c,o= .nx (uf N S nt bitsD (.tup (turned.map .int)) bD (some (.d (.int i))) (some (.d (gZ g))) c))∧S1=S++[SO.lst ((ws++[fun p=>gF g ws p !=turned.contains (i:Int)]).map (mI N))]:=by
 have hz:sizeLine=16777216:=sizeLine_eq
 have ha:=BP g.1
 unfold iH
 refine aS (bz (by unfold uf;simp only[List.length_cons,List.length_nil];omega) (tG (d:=mI N (gF g ws)) ?_ rfl ⟨_,rfl,?_⟩))
 ·have h5:(bY (S++[.lst (ws.map (mI N))]) (uf N S nt bitsD (.tup (turned.map .int)) bD (some (.d (.int i))) (some (.d (gZ g))) a8))[5]? =some (.val (.lst (ws.map (mI N)))):=by
   unfold bY uf
   show some (match res (S++[.lst (ws.map (mI N))]) (.loc S.length) with | some d=>Sl.val d | none=> .un)=_
   unfold res
   rw[bt]
  refine(aT (ds:=[.str (kS g.1), .tup ((g.2.1.map (iI ws)).map (mI N)),mI N one]) (aQ (aD (a:=gZ g) (b:= .int 0) rfl rfl rfl) (aQ ?_ (aQ rfl rfl))) (DC hg.1 (by rw[List.length_map];exact hg.2.1))).trans ?_
  ·exact aT (ds:=[.lst (ws.map (mI N)), .tup (g.2.1.map nI)]) (aQ (by unfold ai;rw [h5]) (aQ (aD (a:=gZ g) (b:= .int 1) rfl rfl rfl) rfl)) (Ew hg.2.2 (by rw[hg.2.1];omega))
  ·have:(fun p=>gv g.1 ((g.2.1.map (iI ws)).map (· p)))=gF g ws:=by funext p;unfold gF;rw [List.map_map];rfl
   rw[this]
 ·show W3 (il 5 _ (uf N S nt bitsD (.tup (turned.map .int)) bD (some (.d (.int i))) (some (.d (gZ g))) (some (.d (mI N (gF g ws))))) _) _
  refine gW (k:=S.length) rfl ⟨_,bt _ _⟩ (cA (d:=mI N fun p=>gF g ws p !=turned.contains (i:Int)) ?_ ⟨_,_,rfl,bt _ _,by rw[List.length_map];omega,⟨_,rfl⟩,?_⟩)
  ·refine sR (b:=turned.contains (i:Int)) (fk (a:= .int i) (b:= .tup (turned.map .int)) rfl rfl (xN _ _)) ?_
   rw[←z8]
   rfl
  ·rw[d6,List.map_append];rfl
theorem vS{S:aN}{bD:D}(hB:bD= .lst (bits.map (mI N))∨bD= .tup (bits.map (mI N)))(NO:i9 ins gs os)(hb:bits.length=ins.length)(hS:jZ S){Q:V3→aN→Prop}(h:Q (.d (.lst ((qG ins gs bits turned bad).map (mI N)))) S) :
 W3 (dy [.d (cb ins gs os), .d bD, .d (mI N one), .d (.tup (turned.map .int)), .d (.tup (bad.map .int))] S) Q:=by
 have hz:sizeLine=16777216:=sizeLine_eq
 unfold dy
 refine jW hS (qX rfl ?_)
 simp only[bG,ik,List.map_cons,List.map_nil,List.length_cons,List.length_nil,List.replicate,List.cons_append,List.nil_append,Nat.reduceAdd,Nat.reduceSub]
 unfold j3
 refine aS <| bz (by simp only[List.length_cons,List.length_nil,List.length_set];omega) <| dc <| ay <| cA (d:= .lst (ins.map inD)) rfl <| ay <| cA (d:=bD) rfl <| ay <| cA (d:=mI N one) rfl <| ay <| cA (d:= .tup (bad.map .int)) rfl <| bS <| uM hB hb NO.hi NO.hw ⟨_,rfl,?_⟩
 simp only[List.set_cons_succ,List.set_cons_zero]
 have hwd:=BD NO.hw
 have hN:=NO.hi
 have hG:=NO.hg
 refine aS (f7 (lO (ds:=di (gs.map gZ)) rfl ?_))
 refine(cv (fun i δ S2=>(∃a b c,δ=uf N S (cb ins gs os) bD (.tup (turned.map .int)) (.tup (bad.map .int)) a b c)∧S2=S++[SO.lst ((lJ gs turned (c9 ins bits bad ins.length) i).map (mI N))])
  ⟨⟨_,_,_,rfl⟩,rfl⟩ ?_).mono fun o S2 ⟨δ2,e2',⟨a,b,c,hδ⟩,hS2⟩=>⟨δ2,e2',?_⟩
 ·rintro i v δ S2 hv ⟨⟨a,b,c,rfl⟩,rfl⟩
  obtain⟨d,hd,rfl⟩:=tp hv
  rw[List.getElem?_map] at hd
  cases q:gs[i]? with
  | none=>rw [q] at hd;cases hd
  | some g=>
    rw[q] at hd
    cases hd
    have hi:i < gs.length:=(List.getElem?_eq_some_iff.mp q).1
    have hl:(lJ gs turned (c9 ins bits bad ins.length) i).length=i5 ins+i:=by rw[nG _ (by omega),ng hb _ (Nat.le_refl _),List.take_length]
    refine⟨uf N S (cb ins gs os) bD (.tup (turned.map .int)) (.tup (bad.map .int)) (some (.d (.int i))) (some (.d (gZ g))) c,rfl,?_⟩
    refine(yT (by rw[hl];exact NO.g i g q) (by rw[hl];omega)).mono fun o S4 ⟨⟨c4,e4⟩,e5⟩=>⟨_,e4,⟨_,_,_,rfl⟩,?_⟩
    rw[e5]
    show _=S++[SO.lst ((match gs[i]? with | some g=>lJ gs turned (c9 ins bits bad ins.length) i++[fun p=>gF g (lJ gs turned (c9 ins bits bad ins.length) i) p !=turned.contains (i:Int)] | none=>lJ gs turned (c9 ins bits bad ins.length) i).map (mI N))]
    rw[q]
 have hlen:((di (gs.map gZ)).map V3.d).length=gs.length:=by simp [di]
 rw[hlen] at hS2
 subst hδ hS2
 exact ef (w_var rfl ⟨_,rfl,by unfold d9;exact decide_eq_true (Nat.le_refl _),⟨_,rfl⟩,_,by unfold res;rw [bt];rfl,h⟩)
noncomputable def iQ(N:Nat)(os:List (Str × List Nat))(ws:List M):List D:=os.map fun x=> .tup ((tell ws x).map (mI N))
theorem yF{S:aN}{ws:List M}(hO:os.length < 1000)(ho:∀x∈os,x.2.length < 1000∧∀w∈x.2,w < ws.length)(hS:jZ S){Q:V3→aN→Prop}(h:Q (.d (.lst (iQ N os ws))) S) :
 W3 (dY [.d (cb ins gs os), .d (.lst (ws.map (mI N)))] S) Q:=by
 have hz:sizeLine=16777216:=sizeLine_eq
 unfold dY
 refine jW hS (qX rfl ?_)
 simp only[bG,gU,List.map_cons,List.map_nil,List.length_cons,List.length_nil,List.replicate,List.cons_append,List.nil_append,Nat.reduceAdd,Nat.reduceSub]
 unfold lp
 refine ef (iC (ds:=iQ N os ws) ?_ ⟨_,rfl,by unfold d9;exact decide_eq_true (Nat.le_refl _),⟨_,rfl⟩,_,by unfold res;rw [bt],h⟩)
 refine gR (ds:=os.map y_) (pT (aD (a:=cb ins gs os) (b:= .int 2) rfl rfl rfl)) (by rw[List.length_map];omega) ?_
 unfold iQ
 refine NT.fI y_ _ fun(x:Str × List Nat) hx=>⟨[.val (.str x.1), .val (.tup (x.2.map nI)), .val (.lst (ws.map (mI N)))],rfl,rfl,?_⟩
 exact aT (ds:=[.lst (ws.map (mI N)), .tup (x.2.map nI)]) rfl (Ew (ho x hx).2 (ho x hx).1)
end
end K19
end
section
set_option maxRecDepth 100000
set_option maxHeartbeats 4000000
namespace K19
open PySem PySem.Spec PyProof.Rows L2 L3 MT
noncomputable def r0(xs:List M):M:=fun p=>(GP (xs.map (· p))).1
noncomputable def r1(xs:List M):M:=fun p=>(GP (xs.map (· p))).2
theorem qO{n:Nat}{ds:List D}{δ:ax}{j:Int}(h:ai 0 δ= .ok (.tup ds))(hl:ds.length=n):b2 jC (aP cP (au (ai 0) aL)) (eC (.int j)) δ= .ok (decide ((n:Int)=j)):=by
 refine fk (a:= .int n) (b:= .int j) (aT (ds:=[.tup ds]) (aQ h rfl) ?_) rfl ?_
 ·show R.ok (D.int ds.length)=_
  rw[hl]
 ·show R.ok (D.bl ((n:Int)==j))=_
  congr 2
theorem qc{N:Nat}{xs:List M}(h:1≤xs.length∧xs.length≤3):fP [.tup (xs.map (mI N)),mI N one]= .ok (.tup [mI N (r0 xs),mI N (r1 xs)]):=by
 have hz:sizeLine=16777216:=sizeLine_eq
 unfold fP rP
 match xs,h with
 | [a],_=>
   refine c7 (bK (gA (qO (n:=1) rfl rfl) rfl) (bK (hX (d:=mI N a) (sR (qO (n:=1) rfl rfl) (aD (a:= .tup [mI N a]) (b:= .int 0) rfl rfl yM)) (by simp [cJ,lD])) (cB ?_)))
   exact eh (aQ (aD (a:=mI N one) (b:=mI N a) rfl rfl (uA N a)) (aQ rfl rfl)) (by simp;omega)
 | [a,b],_=>
   refine c7 (NT.ia (lV (qO (n:=2) rfl rfl) (cB ?_)))
   exact eh (aQ (aD (a:=mI N one) (b:=mI N fun p=>a p || b p) rfl (aD (aD rfl rfl yM) (aD rfl rfl zU) (vP N a b)) (uA N _)) (aQ (aD (aD rfl rfl yM) (aD rfl rfl zU) (pU N a b)) rfl)) (by simp;omega)
 | [a,b,c],_=>
   refine c7 (bK (gA (qO (n:=3) rfl rfl) rfl) (bK (hX (d:=mI N fun p=>(a p && b p) || (a p && c p) || (b p && c p)) (sR (qO (n:=3) rfl rfl) (aT (ds:=[.tup [mI N a,mI N b,mI N c]]) rfl x6)) (by simp [cJ,lD])) (cB ?_)))
   exact eh (aQ (aD (a:=mI N one) (b:=mI N fun p=>(a p && b p) || (a p && c p) || (b p && c p)) rfl rfl (uA N _)) (aQ rfl rfl)) (by simp;omega)
theorem wt{N n:Nat}{f:M}:eL [mI N f, .int n]= .ok (.int (if decide (n < N) && f n then 1 else 0)):=by
 unfold eL u0
 refine c7 (cB ?_)
 have h:=HV N f n
 show(R.bind (R.bind (R.ok (mI N f)) fun d=>R.bind (R.ok (D.int n)) fun e=>oI d e) fun d=>R.bind (R.ok (D.int 1)) fun e=>zQ d e)=_
 exact h
theorem qh{bs:List Bool}(hl:bs.length < 100000):fU [.lst (bs.map bI)]= .ok (.int (Cn bs)):=by
 unfold fU rN
 refine c7 (bK (hX (d:= .int 0) rfl (by simp [cJ,oi])) ?_)
 obtain⟨δ1,e1,a2,hδ1⟩:=jH (t:=aY 2) (body:=kM) (ds:=(bs.map bI).reverse)
  (fun i δ=>∃a2,δ=[.val (.lst (bs.map bI)), .val (.int (Cn (bs.drop (bs.length - i)))),a2]) (δ:=[.val (.lst (bs.map bI)), .val (.int 0), .un]) ⟨.un,by simp [Cn]⟩ (by
    rintro i d δ hd ⟨a2,rfl⟩
    have hi:i < bs.length:=by
     have:=(List.getElem?_eq_some_iff.mp hd).1
     rwa [List.length_reverse,List.length_map] at this
    rw[List.getElem?_reverse (by rw[List.length_map];exact hi),List.length_map,List.getElem?_map,List.getElem?_eq_getElem (by omega:bs.length - 1 - i < bs.length)] at hd
    cases hd
    have hdr:bs.drop (bs.length - (i+1))=bs[bs.length - 1 - i] ::bs.drop (bs.length - i):=by
     rw[show bs.length - (i+1)=bs.length - 1 - i by omega,List.drop_eq_getElem_cons (by omega:bs.length - 1 - i < bs.length),show bs.length - 1 - i+1=bs.length - i by omega]
    refine⟨_,?_,⟨.val (bI bs[bs.length - 1 - i]),rfl⟩⟩
    have hm:(Cn (bs.drop (bs.length - (i+1))):Int)=(Cn (bs.drop (bs.length - i)):Int)*2+(if bs[bs.length - 1 - i] then 1 else 0):=by
     rw[hdr]
     show(((if bs[bs.length - 1 - i] then 1 else 0)+2*Cn (bs.drop (bs.length - i)):Nat):Int)=_
     cases bs[bs.length - 1 - i] <;> simp <;> omega
    rw[hm]
    generalize (Cn (bs.drop (bs.length - i)):Int)=m
    generalize bs[bs.length - 1 - i]=x
    generalize D.lst (bs.map bI)=y
    rw[show aY 2 (bI x) [.val y, .val (.int m),a2]= .ok [.val y, .val (.int m), .val (bI x)] from rfl,R.aM]
    unfold kM
    exact hX (aD (a:= .int (m*2)) (b:=bI x) (aD (a:= .int m) (b:= .int 2) rfl rfl (bU _ (.inr ⟨by omega,by omega⟩))) rfl rfl) (by simp))
 refine bK (mY (ds:=(bs.map bI).reverse) rfl e1) ?_
 rw[List.length_reverse,List.length_map,Nat.sub_self,List.drop_zero] at hδ1
 subst hδ1
 exact cB rfl
noncomputable def bw:Nat→List (List Bool)
 | 0=>[[]]
 | c+1=>(bw c).flatMap fun b=>[b++[false],b++[true]]
theorem cN:∀c,(bw c).length=2 ^ c
 | 0=>rfl
 | c+1=>by
   unfold bw
   rw[List.length_flatMap]
   have:(bw c).map (fun b=>[b++[false],b++[true]].length)=(bw c).map fun _=>2:=rfl
   rw[this,List.map_const',List.sum_replicate_nat,cN c]
   omega
theorem iz:∀c,∀b∈bw c,b.length=c
 | 0,b,h=>by unfold bw at h;rw [List.mem_singleton.mp h];rfl
 | c+1,b,h=>by
   unfold bw at h
   obtain⟨a,ha,hb⟩:=List.mem_flatMap.mp h
   have:=iz c a ha
   simp only[List.mem_cons,List.not_mem_nil,or_false] at hb
   rcases hb with rfl | rfl <;> simp [this]
noncomputable def cz(b:List Bool):D:= .tup (b.map bI)
noncomputable def aE(c:Nat)(inp:Option V3)(a2 a3 a4:Option V3):DE:=[some (.d (nI c)),inp,a2,a3,a4]
theorem rj{c:Nat}{S:aN}(hc:c≤10)(hS:jZ S){Q:V3→aN→Prop}(h:Q (.d (.lst ((bw c).map cz))) S):W3 (fw [.d (nI c)] S) Q:=by
 have hz:sizeLine=16777216:=sizeLine_eq
 unfold fw
 refine jW hS (qX rfl ?_)
 simp only[bG,ij,List.map_cons,List.map_nil,List.length_cons,List.length_nil,List.replicate,List.cons_append,List.nil_append,Nat.reduceAdd,Nat.reduceSub]
 unfold kr
 refine aS <| bz (by simp only[List.length_cons,List.length_nil,List.length_set];omega) <| iC (ds:=(bw 0).map cz) rfl ⟨_,rfl,?_⟩
 simp only[List.set_cons_succ,List.set_cons_zero]
 refine aS <| f7 <| lO (gq (n:=c) rfl (by omega)) ?_
 refine(cv (fun i δ S2=>∃(T:aN) (a2 a3 a4:Option V3),S2=S++T++[.lst ((bw i).map cz)]∧δ=aE c (some (.loc (S++T).length)) a2 a3 a4)
  ⟨[],none,none,none,by simp,by simp [aE]⟩ ?_).mono fun o S2 ⟨δ2,e2',T,a2,a3,a4,hS2,hδ⟩=>⟨δ2,e2',?_⟩
 ·rintro i v δ S2 hv ⟨T,a2,a3,a4,rfl,rfl⟩
  have hi:i < c:=by
   have:=(List.getElem?_eq_some_iff.mp hv).1
   rwa [List.length_map,cH,List.length_map,List.length_range] at this
  have hpow:(bw i).length≤1024:=by
   rw[cN]
   exact Nat.pow_le_pow_right (by omega) (by omega:i≤10)
  refine⟨aE c (some (.loc (S++T).length)) (some v) a3 a4,rfl,?_⟩
  unfold lh aE
  refine G7 (i:=1) rfl (bt _ _) ?_
  rw[d6]
  simp only[List.set_cons_succ,List.set_cons_zero]
  refine aS <| bz (by simp only[List.length_cons,List.length_nil,List.length_set];omega) <| iC (ds:=[]) rfl ⟨_,rfl,?_⟩
  simp only[List.set_cons_succ,List.set_cons_zero]
  generalize hU:S++T++[SO.iS]=U
  refine aS <| f7 <| lO (ds:=(bw i).map cz) rfl ?_
  refine(cv (fun j δ S3=>(∃b4,δ=[some (.d (nI c)),some (.d (.lst ((bw i).map cz))),some v,some (.loc U.length),b4])∧S3=U++[.lst ((((bw i).take j).flatMap fun b=>[b++[false],b++[true]]).map cz)])
   ⟨⟨_,rfl⟩,by simp⟩ ?_).mono fun o S3 ⟨δ3,e3,⟨b4,hδ3⟩,hS3⟩=>⟨δ3,e3,?_⟩
  ·rintro j v3 δ S3 hv3 ⟨⟨b4,rfl⟩,rfl⟩
   obtain⟨b,hb,rfl⟩:=NT.i4 hv3
   have hj:=(List.getElem?_eq_some_iff.mp hb).1
   have hbl:=iz i b (List.mem_of_getElem? hb)
   refine⟨[some (.d (nI c)),some (.d (.lst ((bw i).map cz))),some v,some (.loc U.length),some (.d (cz b))],rfl,?_⟩
   unfold kO
   generalize hL:((((bw i).take j).flatMap fun b=>[b++[false],b++[true]]).map cz)=L
   have hLl:L.length≤2048:=by
    rw[←hL,List.length_map,List.length_flatMap]
    have:((bw i).take j).map (fun b=>[b++[false],b++[true]].length)=((bw i).take j).map fun _=>2:=rfl
    rw[this,List.map_const',List.sum_replicate_nat,List.length_take]
    omega
   have add:∀(x:Bool) (δ:ax),ai 4 δ= .ok (cz b)→e2 jU (ai 4) (dU (au (eC (bI x)) aL)) δ= .ok (cz (b++[x])):=fun x δ h4=>by
    refine aD (a:=cz b) (b:= .tup [bI x]) h4 (eh rfl (by simp;omega)) ?_
    show R.cc (decide ((b.map bI).length+[bI x].length≤sizeLine)) _=_
    rw[bU _ (by rw[List.length_map];simp;omega)]
    unfold cz
    rw[List.map_append];rfl
   refine aS <| gW (k:=U.length) rfl ⟨_,bt _ _⟩ <| cA (d:=cz (b++[false])) (add false _ rfl) ⟨_,_,rfl,bt _ _,by omega,_,rfl,?_⟩
   rw[d6]
   refine gW (k:=U.length) rfl ⟨_,bt _ _⟩ <| cA (d:=cz (b++[true])) (add true _ rfl) ⟨_,_,rfl,bt _ _,by rw[List.length_append];simp;omega,_,rfl,⟨_,rfl⟩,?_⟩
   rw[d6,List.take_add_one,hb,List.flatMap_append,List.map_append,hL]
   simp
  rw[List.length_map,List.length_map,List.take_length] at hS3
  subst hδ3 hS3
  refine bz (by simp only[List.length_cons,List.length_nil,List.length_set];omega) <| w_var (v:= .loc U.length) rfl ⟨_,rfl,T++[SO.iS],some v,some (.loc U.length),b4,?_,?_⟩
  ·rw[←hU,List.append_assoc S];rfl
  ·rw[←hU,List.append_assoc S];rfl
 have hlen:((cH 0 c).map V3.d).length=c:=by simp [cH]
 rw[hlen] at hS2
 subst hδ hS2
 unfold aE
 refine ef (w_var rfl ⟨_,rfl,by unfold d9;exact decide_eq_true (by rw[List.length_append];omega),⟨T++[.lst ((bw c).map cz)],by rw[List.append_assoc]⟩,_,by unfold res;rw [bt],h⟩)
end K19
end
section
set_option maxRecDepth 100000
set_option maxHeartbeats 4000000
namespace K19
open PySem PySem.Spec PyProof.Rows L2 L3 MT
noncomputable def IF(c j:Nat):M:=fun p=>((bw c).getD p []).getD j false
noncomputable def q_(c:Nat):List M:=(List.range c).map (IF c)
theorem EC{b:List Bool}{j:Nat}(h:j < b.length):cD (cz b) (.int j)= .ok (bI (b.getD j false)):=by
 refine sU ?_
 rw[i3 (by omega) (by rw[List.length_map,Int.toNat_natCast];exact h)]
 rw[List.getD_eq_getElem?_getD,List.getElem?_eq_getElem h]
 simp
theorem xm{c j:Nat}(hc:c≤10)(hj:j < c):iy [.lst ((bw c).map cz), .int j]= .ok (mI (2 ^ c) (IF c j)):=by
 have hz:sizeLine=16777216:=sizeLine_eq
 have hp:2 ^ c≤1024:=Nat.pow_le_pow_right (by omega) hc
 unfold iy sM
 refine c7 (cB (aT (ds:=[.lst (((bw c).map fun b=>b.getD j false).map bI)]) (aQ (gb (gR (ds:=(bw c).map cz) rfl (by rw[List.length_map,cN];omega) ?_)) rfl) ?_))
 ·rw[List.map_map]
  exact NT.fI cz _ fun b hb=>⟨[.val (cz b), .val (.int j)],rfl,rfl,aD (a:=cz b) (b:= .int j) rfl rfl (EC (by rw[iz c b hb];exact hj))⟩
 ·rw[qh (by rw[List.length_map,cN];omega),BN,List.length_map,cN]
  unfold mI
  congr 3
  refine lL fun p hp'=>?_
  unfold IF
  rw[List.getD_eq_getElem?_getD,List.getElem?_map,List.getD_eq_getElem?_getD (l:=bw c),List.getElem?_eq_getElem (by rw[cN];exact hp')]
  rfl
section
variable {c:Nat} {ins:List (Str × Nat)} {gs:List Gt} {os:List (Str × List Nat)}
noncomputable abbrev zc:=Str.ofString "net"
noncomputable abbrev rY:=Str.ofString "many_inputs"
noncomputable abbrev sI:=Str.ofString "full"
noncomputable abbrev oG:=Str.ofString "in_masks"
noncomputable def cQ(c:Nat)(nt:D):List (Str × V3):=[(zc, .d nt),(rY, .d (nI (2 ^ c))),(sI, .d (mI (2 ^ c) one)),(oG, .d (.lst ((q_ c).map (mI (2 ^ c)))))]
theorem yw{S:aN}(hc:ins.length=c)(hc1:c≤10)(hS:jZ (S++[.ins 0 []])){Q:V3→aN→Prop}(h:Q (.d .cS) (S++[.ins 0 (cQ c (cb ins gs os))])) :
 W3 (cf [.loc S.length, .d (cb ins gs os)] (S++[.ins 0 []])) Q:=by
 have hz:sizeLine=16777216:=sizeLine_eq
 have hp:2 ^ c≤1024:=Nat.pow_le_pow_right (by omega) hc1
 unfold cf
 refine HM rfl ?_
 simp only[bG,cY,List.map_cons,List.map_nil,List.length_cons,List.length_nil,List.replicate,List.cons_append,List.nil_append,Nat.reduceAdd,Nat.reduceSub]
 unfold gJ
 refine aS <| bz (by simp only[List.length_cons,List.length_nil,List.length_set];omega) <| dc <| ay <| cA (d:=nI c) (aT (ds:=[.lst (ins.map inD)]) rfl (by rw[kL,List.length_map,hc];rfl)) <| bS <| rj hc1 hS ⟨_,rfl,?_⟩
 simp only[List.set_cons_succ,List.set_cons_zero]
 refine aS <| iV (k:=S.length) <| cA (d:=cb ins gs os) rfl <| w_var (v:= .loc S.length) rfl ⟨_,rfl,bt _ _,by simp,_,rfl,?_⟩
 rw[d6]
 refine aS <| iV (k:=S.length) <| cA (d:=nI (2 ^ c)) (aT (ds:=[.lst ((bw c).map cz)]) rfl (by rw[kL,List.length_map,cN];rfl)) <| w_var (v:= .loc S.length) rfl ⟨_,rfl,bt _ _,by unfold uU;simp,_,rfl,?_⟩
 rw[d6]
 refine aS <| iV (k:=S.length) <| cA (d:=mI (2 ^ c) one) (aT (ds:=[.lst (((bw c).map fun _=>true).map bI)]) (aQ (gb (gR (ds:=(bw c).map cz) rfl (by rw[List.length_map,cN];omega) ?_)) rfl) ?_) <| w_var (v:= .loc S.length) rfl ⟨_,rfl,bt _ _,?_,_,rfl,?_⟩
 ·rw[List.map_map]
  exact NT.fI cz _ fun b hb=>⟨[.val (cz b)],rfl,rfl,rfl⟩
 ·rw[qh (by rw[List.length_map,cN];omega),BN,List.length_map,cN]
  unfold mI
  congr 3
  refine lL fun p hp'=>?_
  rw[List.getD_eq_getElem?_getD,List.getElem?_map,List.getElem?_eq_getElem (by rw[cN];exact hp')]
  rfl
 ·exact(by decide:2 < 1000)
 rw[d6]
 refine iV (k:=S.length) <| cA (d:= .lst ((q_ c).map (mI (2 ^ c)))) (gb (gR (ds:=cH 0 c) (gq (n:=c) (aT (ds:=[.lst (ins.map inD)]) rfl (by rw[kL,List.length_map,hc])) (by omega)) (by simp [cH];omega) ?_)) <| w_var (v:= .loc S.length) rfl ⟨_,rfl,bt _ _,?_,_,rfl,?_⟩
 ·unfold q_
  rw[List.map_map]
  unfold cH
  refine NT.fI (fun i:Nat=>D.int (0+(i:Int))) _ fun j hj=>⟨[.val (.int (0+(j:Int))), .val (.lst ((bw c).map cz))],rfl,rfl,aT (ds:=[.lst ((bw c).map cz), .int j]) ?_ (xm hc1 (List.mem_range.mp hj))⟩
  rw[Int.zero_add]
  rfl
 ·exact(by decide:3 < 1000)
 rw[d6]
 exact h
end
end K19
end
section
set_option maxRecDepth 100000
set_option maxHeartbeats 4000000
namespace K19
open PySem PySem.Spec PyProof.Rows L2 L3 MT
section
variable {c:Nat} {ins:List (Str × Nat)} {gs:List Gt} {os:List (Str × List Nat)} {S:aN} {k:Nat} {turned bad:List Int}
theorem Kz:(rY==zc)=false:=by decide+kernel
theorem Lc:(sI==zc)=false:=by decide+kernel
theorem Ls:(sI==rY)=false:=by decide+kernel
theorem Le:(oG==zc)=false:=by decide+kernel
theorem LI:(oG==rY)=false:=by decide+kernel
theorem K1:(oG==sI)=false:=by decide+kernel
theorem BG{nt:D}:(cQ c nt).lookup zc=some (.d nt):=by unfold cQ;rw [List.lookup_cons,beq_self_eq_true]
theorem yL{nt:D}:(cQ c nt).lookup rY=some (.d (nI (2 ^ c))):=by unfold cQ;rw [List.lookup_cons,Kz,List.lookup_cons,beq_self_eq_true]
theorem yA{nt:D}:(cQ c nt).lookup sI=some (.d (mI (2 ^ c) one)):=by unfold cQ;rw [List.lookup_cons,Lc,List.lookup_cons,Ls,List.lookup_cons,beq_self_eq_true]
theorem AA{nt:D}:(cQ c nt).lookup oG=some (.d (.lst ((q_ c).map (mI (2 ^ c))))):=by unfold cQ;rw [List.lookup_cons,Le,List.lookup_cons,LI,List.lookup_cons,K1,List.lookup_cons,beq_self_eq_true]
theorem pZ:(q_ c).length=c:=by unfold q_;simp
noncomputable abbrev Wd(c:Nat)(ins:List (Str × Nat))(gs:List Gt)(turned bad:List Int):List M:=qG ins gs (q_ c) turned bad
theorem uH(m:Str)(nt:D)(h1:(m==zc)=false)(h2:(m==rY)=false)(h3:(m==sI)=false)(h4:(m==oG)=false):(cQ c nt).lookup m=none:=by unfold cQ;rw [List.lookup_cons,h1,List.lookup_cons,h2,List.lookup_cons,h3,List.lookup_cons,h4];rfl
theorem BH(NO:i9 ins gs os)(hc:ins.length=c)(hS:jZ S)(hb:S[k]? =some (.ins 0 (cQ c (cb ins gs os)))){Q:V3→aN→Prop}(h:Q (.d (.lst (iQ (2 ^ c) os (Wd c ins gs turned bad)))) S) :
 W3 (eJ [.loc k, .d (.tup (turned.map .int)), .d (.tup (bad.map .int))] S) Q:=by
 have hz:sizeLine=16777216:=sizeLine_eq
 unfold eJ
 refine jW hS (qX rfl ?_)
 simp only[bG,gM,List.map_cons,List.map_nil,List.length_cons,List.length_nil,List.replicate,List.cons_append,List.nil_append,Nat.reduceAdd,Nat.reduceSub]
 unfold js
 have hl:(q_ c).length=ins.length:=by rw[pZ,hc]
 refine ef <| dc <| ay <| w_fld (k:=k) <| w_var (v:= .loc k) rfl ⟨_,_,rfl,hb,BG,?_⟩
 refine ay <| dc <| ay <| w_fld (k:=k) <| w_var (v:= .loc k) rfl ⟨_,_,rfl,hb,BG,?_⟩
 refine ay <| w_fld (k:=k) <| w_var (v:= .loc k) rfl ⟨_,_,rfl,hb,AA,?_⟩
 refine ay <| w_fld (k:=k) <| w_var (v:= .loc k) rfl ⟨_,_,rfl,hb,yA,?_⟩
 refine ay <| cA (d:= .tup (turned.map .int)) rfl <| ay <| cA (d:= .tup (bad.map .int)) rfl <| bS ?_
 refine vS (.inl rfl) NO hl hS (bS ?_)
 refine yF NO.ho (fun x hx=>⟨(NO.o x hx).1,fun w hw=>by rw[uw hl];exact(NO.o x hx).2 w hw⟩) hS ?_
 exact⟨_,rfl,by unfold d9;rfl,⟨[],by simp⟩,_,by unfold res;rfl,h⟩
noncomputable def zR(N:Nat)(os:List (Str × List Nat))(ws:List M):List D:=os.map fun x=> .tup [mI N (r0 (tell ws x)),mI N (r1 (tell ws x))]
theorem k4(NO:i9 ins gs os)(hc:ins.length=c)(ho:∀x∈os,1≤x.2.length∧x.2.length≤3)(hS:jZ S)(hb:S[k]? =some (.ins 0 (cQ c (cb ins gs os)))){Q:V3→aN→Prop}(h:Q (.d (.lst (zR (2 ^ c) os (Wd c ins gs turned [])))) S) :
 W3 (bN [.loc k, .d (.tup (turned.map .int))] S) Q:=by
 have hz:sizeLine=16777216:=sizeLine_eq
 have hO:=NO.ho
 unfold bN
 refine jW hS (qX rfl ?_)
 simp only[bG,dI,List.map_cons,List.map_nil,List.length_cons,List.length_nil,List.replicate,List.cons_append,List.nil_append,Nat.reduceAdd,Nat.reduceSub]
 unfold gE
 refine ef <| h_ (fun j ds S2=>S2=S∧ds=(zR (2 ^ c) os (Wd c ins gs turned [])).take j) ?_
 refine nK <| iK (k:=k) <| w_var (v:= .loc k) rfl ⟨_,rfl,hb,uH _ _ (by decide+kernel) (by decide+kernel) (by decide+kernel) (by decide+kernel),?_⟩
 refine ay <| cA (d:= .tup (turned.map .int)) rfl <| ay <| cA (d:= .tup (([]:List Int).map .int)) rfl <| bS ?_
 refine BH NO hc hS hb ⟨_,rfl,?_,⟨rfl,by simp⟩,?_,?_⟩
 ·rw[List.length_map,iQ,List.length_map];omega
 ·rintro j v ds S2 hv ⟨rfl,rfl⟩
  rw[iQ] at hv
  obtain⟨x,hx,rfl⟩:=NT.i4 hv
  refine⟨[some (.d (.tup ((tell (Wd c ins gs turned []) x).map (mI (2 ^ c))))),some (.loc k)],rfl,sF ?_⟩
  rw[if_pos rfl]
  refine pG <| ay <| cA (d:= .tup ((tell (Wd c ins gs turned []) x).map (mI (2 ^ c)))) rfl <| ay <| w_fld (k:=k) <| w_var (v:= .loc k) rfl ⟨_,_,rfl,hb,yA,bS ⟨[.tup ((tell (Wd c ins gs turned []) x).map (mI (2 ^ c))),mI (2 ^ c) one],_,rfl,qc ?_,_,rfl,rfl,?_⟩⟩
  ·unfold tell;rw [List.length_map];exact ho x (List.mem_of_getElem? hx)
  ·unfold zR
   rw[List.take_add_one,List.getElem?_map,hx]
   rfl
 ·rintro ds S2 ⟨rfl,rfl⟩
  rw[List.length_map,iQ,List.length_map,List.take_of_length_le (by rw[zR,List.length_map];exact Nat.le_refl _)]
  exact⟨_,rfl,by unfold d9;rfl,⟨[],by simp⟩,_,by unfold res;rfl,h⟩
theorem j1{nt:D}{f:M}(hc:c≤10)(hS:jZ S)(hb:S[k]? =some (.ins 0 (cQ c nt))){Q:V3→aN→Prop}(h:Q (.d (.lst (((List.range (2 ^ c)).filter f).map nI))) S) :
 W3 (bW [.loc k, .d (mI (2 ^ c) f)] S) Q:=by
 have hz:sizeLine=16777216:=sizeLine_eq
 have hp:2 ^ c≤1024:=Nat.pow_le_pow_right (by omega) hc
 unfold bW
 refine jW hS (qX rfl ?_)
 simp only[bG,dj,List.map_cons,List.map_nil,List.length_cons,List.length_nil,List.replicate,List.cons_append,List.nil_append,Nat.reduceAdd,Nat.reduceSub]
 unfold fZ
 refine ef <| h_ (fun j ds S2=>S2=S∧ds=((List.range j).filter f).map nI) ?_
 refine mR <| w_fld (k:=k) <| w_var (v:= .loc k) rfl ⟨_,_,rfl,hb,yL,2 ^ c,rfl,by omega,?_⟩
 have hlen:((cH 0 (2 ^ c)).map V3.d).length=2 ^ c:=by simp [cH]
 rw[hlen]
 refine⟨by omega,⟨rfl,rfl⟩,?_,?_⟩
 ·rintro j v ds S2 hv ⟨rfl,rfl⟩
  obtain⟨hj,rfl⟩:=NT.n4 hv
  refine⟨[some (.d (.int j)),some (.d (mI (2 ^ c) f))],rfl,vz (b:=f j) ?_ ?_⟩
  ·refine fk (a:= .int (if decide (j < 2 ^ c) && f j then 1 else 0)) (b:= .int 1) (aT (ds:=[mI (2 ^ c) f, .int j]) rfl wt) rfl ?_
   rw[decide_eq_true hj,Bool.true_and]
   cases f j <;> rfl
  ·rw[List.range_succ,List.filter_append,List.map_append]
   cases hf:f j with
   | true=>rw [if_pos rfl];exact cA (d:=nI j) rfl ⟨_,rfl,rfl,by simp [hf]⟩
   | false=>rw [if_neg (by decide)];exact⟨rfl,by simp [hf]⟩
 ·rintro ds S2 ⟨rfl,rfl⟩
  exact⟨_,rfl,by unfold d9;rfl,⟨[],by simp⟩,_,by unfold res;rfl,h⟩
end
end K19
end
section
set_option maxRecDepth 100000
set_option maxHeartbeats 4000000
namespace K19
open PySem PySem.Spec PyProof.Rows L2 L3 MT
theorem sY(n:Nat):cH 0 n=(List.range n).map nI:=by
 unfold cH
 refine List.map_congr_left fun i _=>?_
 show D.int (0+(i:Int))=D.int (i:Int)
 rw[Int.zero_add]
noncomputable def g8(T:List Nat):D:= .tup (T.map nI)
theorem CS{ps:List Nat}{a:Nat}(ha:a < ps.length):FK (.lst (ps.map nI)) (some ((a+1:Nat):Int)) none= .ok (.lst ((ps.drop (a+1)).map nI)):=by
 show R.ok (D.lst (L2.cutD (ps.map nI) (some ((a+1:Nat):Int)) none))=_
 congr 2
 unfold L2.cutD
 rw[List.length_map,HT.sS,HT.A1,Nat.min_eq_left (by omega),←List.map_drop,←List.map_take,List.take_of_length_le (by rw[List.length_drop];omega)]
theorem F4{ds es:List D}(h:ds.length+es.length≤sizeLine):jU (.tup ds) (.tup es)= .ok (.tup (ds++es)):=bU _ h
theorem qF:∀(n s:Nat) (ps:List Nat),s≤n→n≤3→ps.length≤100→dH (n+1) [.lst (ps.map nI), .int s]= .ok (.lst ((lM ps s).map g8))
 | n,0,ps,_,_,_=>by
   show nP jS (jE (dH n)) _=_
   unfold jE
   exact c7 (NT.ia (lV (fk (a:= .int 0) (b:= .int 0) rfl rfl rfl) (cB rfl)))
 | 0,s+1,ps,h,_,_=>by omega
 | n+1,s+1,ps,h,hn,hp=>by
   have hz:sizeLine=16777216:=sizeLine_eq
   show nP jS (jE (dH (n+1))) _=_
   unfold jE
   have hcl:(lM ps (s+1)).length≤100 ^ (s+1):=pQ hp
   have hpow:∀m,m≤3→(100:Nat) ^ m≤1000000:=fun m hm=>Nat.pow_le_pow_right (by omega) hm
   refine c7 (bK (gA (fk (a:= .int (s+1:Nat)) (b:= .int 0) (k:=false) rfl rfl ?_) rfl) ?_)
   ·show R.ok (D.bl (((s+1:Nat):Int)==0))=_
    congr 2
   refine bK (D4 (ds:=[]) rfl (by simp [cJ,jS])) ?_
   let F:Nat→List (List Nat):=fun i=>(List.range i).flatMap fun a=>(lM (ps.drop (a+1)) s).map (ps.getD a 0 ::·)
   have hF:∀i,i≤ps.length→(F i).length≤i*100 ^ s:=fun i hi=>by
    show((List.range i).flatMap fun a=>(lM (ps.drop (a+1)) s).map (ps.getD a 0 ::·)).length≤_
    rw[List.length_flatMap]
    refine Nat.le_trans (tP (m:=100 ^ s) fun x hx=>?_) (by rw[List.length_map,List.length_range];exact Nat.le_refl _)
    obtain⟨a,_,rfl⟩:=List.mem_map.mp hx
    rw[List.length_map]
    exact pQ (by rw[List.length_drop];omega)
   have hFs:∀i,F (i+1)=F i++(lM (ps.drop (i+1)) s).map (ps.getD i 0 ::·):=fun i=>by
    show(List.range (i+1)).flatMap _=_
    rw[List.range_succ,List.flatMap_append]
    simp [F]
   obtain⟨δ1,e1,a3,a4,a5,hδ1⟩:=jH (t:=eY 2 (b3 (aY 3) (b3 (aY 4) eZ))) (body:=kP (dH (n+1))) (ds:=di (ps.map nI))
    (fun i δ=>∃a3 a4 a5,δ=[.val (.lst (ps.map nI)), .val (.int (s+1:Nat)), .bld ((F i).map g8),a3,a4,a5]) (δ:=[.val (.lst (ps.map nI)), .val (.int (s+1:Nat)), .bld [], .un, .un, .un]) ⟨.un, .un, .un,by simp [F]⟩ (by
      rintro i d δ hd ⟨a3,a4,a5,rfl⟩
      have hv:((di (ps.map nI)).map V3.d)[i]? =some (.d d):=by rw[List.getElem?_map,hd];rfl
      obtain⟨d0,hd0,ed⟩:=tp hv
      cases ed
      obtain⟨x,hx,rfl⟩:=NT.tK hd0
      have hil:=(List.getElem?_eq_some_iff.mp hx).1
      have hxd:ps.getD i 0=x:=by rw[List.getD_eq_getElem?_getD,hx];rfl
      have hFi:=hF i (by omega)
      have hFb:i*100 ^ s≤100*100 ^ s:=Nat.mul_le_mul_right _ (by omega)
      have hp2:=hpow (s+1) (by omega)
      rw[Nat.pow_succ,Nat.mul_comm] at hp2
      rw[show eY 2 (b3 (aY 3) (b3 (aY 4) eZ)) (.tup [.int i,nI x]) [.val (.lst (ps.map nI)), .val (.int (s+1:Nat)), .bld ((F i).map g8),a3,a4,a5]= .ok [.val (.lst (ps.map nI)), .val (.int (s+1:Nat)), .bld ((F i).map g8), .val (.int i), .val (nI x),a5] from rfl,R.aM]
      unfold kP
      have ihc:=qF n s (ps.drop (i+1)) (by omega) (by omega) (by rw[List.length_drop];omega)
      have hdl:(lM (ps.drop (i+1)) s).length≤100 ^ s:=pQ (by rw[List.length_drop];omega)
      obtain⟨δ2,e2',c5,hδ2⟩:=jH (t:=aY 5) (body:=lg (dH (n+1))) (ds:=(lM (ps.drop (i+1)) s).map g8)
       (fun j δ=>∃c5,δ=[.val (.lst (ps.map nI)), .val (.int (s+1:Nat)), .bld ((F i++((lM (ps.drop (i+1)) s).take j).map (x ::·)).map g8), .val (.int i), .val (nI x),c5]) (δ:=[.val (.lst (ps.map nI)), .val (.int (s+1:Nat)), .bld ((F i).map g8), .val (.int i), .val (nI x),a5]) ⟨a5,by simp⟩ (by
         rintro j d δ hd ⟨c5,rfl⟩
         obtain⟨T,hT,rfl⟩:=NT.tK hd
         have hjl:=(List.getElem?_eq_some_iff.mp hT).1
         have hTl:=(BZ (List.mem_of_getElem? hT)).1
         refine⟨[.val (.lst (ps.map nI)), .val (.int (s+1:Nat)), .bld ((F i++((lM (ps.drop (i+1)) s).take (j+1)).map (x ::·)).map g8), .val (.int i), .val (nI x), .val (g8 T)],?_,⟨_,rfl⟩⟩
         generalize hL:(F i++((lM (ps.drop (i+1)) s).take j).map (x ::·)).map g8=L
         have hLl:L.length < sizeLine:=by
          rw[←hL,List.length_map,List.length_append,List.length_map,List.length_take]
          omega
         rw[show aY 5 (g8 T) [.val (.lst (ps.map nI)), .val (.int (s+1:Nat)), .bld L, .val (.int i), .val (nI x),c5]= .ok [.val (.lst (ps.map nI)), .val (.int (s+1:Nat)), .bld L, .val (.int i), .val (nI x), .val (g8 T)] from rfl,R.aM]
         unfold lg
         rw[DN (d:=g8 (x ::T)) (ds:=L) (aD (a:= .tup [nI x]) (b:=g8 T) (eh rfl (by simp;omega)) rfl (F4 (by rw[List.length_map];simp;omega))) rfl hLl,←hL,List.take_add_one,hT]
         simp [g8])
      refine⟨_,mY (ds:=(lM (ps.drop (i+1)) s).map g8) (pT (aT (ds:=[.lst ((ps.drop (i+1)).map nI), .int s]) (aQ (xl (d:= .lst (ps.map nI)) (lo:=some ((i+1:Nat):Int)) (hi:=none) rfl (AV (aD (a:= .int i) (b:= .int 1) rfl rfl rfl)) rfl (CS hil)) (aQ (aD (a:= .int (s+1:Nat)) (b:= .int 1) rfl rfl ?_) rfl)) ihc)) e2',?_⟩
      ·show R.ok (D.int (((s+1:Nat):Int) - 1))=_
       congr 2
       omega
      ·rw[List.length_map,List.take_length] at hδ2
       refine⟨.val (.int i), .val (nI x),c5,?_⟩
       rw[hδ2,hFs,hxd])
   refine bK (mY (ds:=di (ps.map nI)) rfl e1) ?_
   have hlen:(di (ps.map nI)).length=ps.length:=by simp [di]
   rw[hlen] at hδ1
   subst hδ1
   exact cB rfl
end K19
end
section
set_option maxRecDepth 100000
set_option maxHeartbeats 4000000
namespace K19
open PySem PySem.Spec PyProof.Rows L2 L3 MT
section
variable {c:Nat} {ins:List (Str × Nat)} {gs:List Gt} {os:List (Str × List Nat)} {S:aN} {k:Nat} {turned:List Int} {safe:Bool}
noncomputable abbrev mq:=Str.ofString "bench"
noncomputable abbrev p_:=Str.ofString "plain"
noncomputable abbrev nH:=Str.ofString "unsure"
noncomputable def iA(gs:List Gt):List Nat:=(List.range gs.length).filter fun i=>match gs[i]? with | some g=>!g.2.2 | none=>false
noncomputable def f_(c:Nat)(ins:List (Str × Nat))(gs:List Gt)(os:List (Str × List Nat))(b:Nat):List (Str × V3):=[(mq, .loc b),(p_, .d (.lst (zR (2 ^ c) os (Wd c ins gs [] [])))),(nH, .d (.lst ((iA gs).map nI)))]
theorem KO:(p_==mq)=false:=by decide+kernel
theorem LO:(nH==mq)=false:=by decide+kernel
theorem Lb:(nH==p_)=false:=by decide+kernel
theorem mZ{b:Nat}:(f_ c ins gs os b).lookup mq=some (.loc b):=by unfold f_;rw [List.lookup_cons,beq_self_eq_true]
theorem AN{b:Nat}:(f_ c ins gs os b).lookup p_=some (.d (.lst (zR (2 ^ c) os (Wd c ins gs [] [])))):=by unfold f_;rw [List.lookup_cons,KO,List.lookup_cons,beq_self_eq_true]
theorem Bo{b:Nat}:(f_ c ins gs os b).lookup nH=some (.d (.lst ((iA gs).map nI))):=by unfold f_;rw [List.lookup_cons,LO,List.lookup_cons,Lb,List.lookup_cons,beq_self_eq_true]
theorem AR{b:Nat}(m:Str)(h1:(m==mq)=false)(h2:(m==p_)=false)(h3:(m==nH)=false):(f_ c ins gs os b).lookup m=none:=by unfold f_;rw [List.lookup_cons,h1,List.lookup_cons,h2,List.lookup_cons,h3];rfl
noncomputable def TS(S:aN)(c:Nat)(ins:List (Str × Nat))(gs:List Gt)(os:List (Str × List Nat)):aN:=S++[.ins 1 (f_ c ins gs os (S.length+1)), .ins 0 (cQ c (cb ins gs os))]
mutual
theorem v8{n m:Nat}(h:n≤m):∀v:V3,k3 n v=true→k3 m v=true
 | .d _,_=>by unfold k3;rfl
 | .loc k,q=>by
   unfold k3 at q ⊢
   exact decide_eq_true (Nat.lt_of_lt_of_le (of_decide_eq_true q) h)
 | .lst vs,q=>by unfold k3 at q ⊢;exact i_ h vs q
 | .tup vs,q=>by unfold k3 at q ⊢;exact i_ h vs q
theorem i_{n m:Nat}(h:n≤m):∀vs:List V3,g7 n vs=true→g7 m vs=true
 | [],_=>by unfold g7;rfl
 | v ::vs,q=>by
   unfold g7 at q ⊢
   rw[Bool.and_eq_true] at q ⊢
   exact⟨v8 h v q.1,i_ h vs q.2⟩
end
theorem oa{n m:Nat}(h:n≤m)(o:SO)(q:lN n o=true):lN m o=true:=by
 cases o with
 | ins k fs=>exact i_ h _ q
 | _=>rfl
theorem jZ.push{S:aN}(hS:jZ S){x:SO}(hx:∀n,lN n x=true):jZ (S++[x]):=fun o ho=>by
 rcases List.mem_append.mp ho with q | q
 ·exact oa (by simp) o (hS o q)
 ·rw[List.mem_singleton.mp q];exact hx _
theorem jZ.set{S:aN}(hS:jZ S)(k:Nat){x:SO}(hx:∀n,lN n x=true):jZ (S.set k x):=fun o ho=>by
 rw[List.length_set]
 rcases List.mem_or_eq_of_mem_set ho with q | q
 ·exact hS o q
 ·rw[q];exact hx _
theorem Ed{S:aN}(hS:jZ S){x y:SO}(hx:lN (S.length+2) x=true)(hy:lN (S.length+2) y=true):jZ (S++[x,y]):=fun o ho=>by
 rw[show(S++[x,y]).length=S.length+2 by simp]
 rcases List.mem_append.mp ho with q | q
 ·exact oa (by omega) o (hS o q)
 ·simp only[List.mem_cons,List.not_mem_nil,or_false] at q
  rcases q with rfl | rfl
  ·exact hx
  ·exact hy
theorem By{δ:ax}(hg:gs.length < 1000)(h1:ai 1 δ= .ok (cb ins gs os)):gB (iZ (e2 cD (ai 1) (eC (.int 1)))) (eY 2 (b3 (aY 0) (b3 (aY 1) eZ))) (mm (ma (e2 cD (ai 1) (eC (.int 2))))) (ai 0) [(Str.ofString "place"),(Str.ofString "gate")] [] δ= .ok ((iA gs).map nI):=by
 have hz:sizeLine=16777216:=sizeLine_eq
 refine gR (ds:=di (gs.map gZ)) (BQ (aD (a:=cb ins gs os) (b:= .int 1) h1 rfl rfl)) (by simp [di];omega) ?_
 have e:di (gs.map gZ)=(List.range gs.length).map fun i=> .tup [.int i,gZ (gs.getD i (0,[],false))]:=by
  refine List.ext_getElem? fun i=>?_
  rw[List.getElem?_map,di,List.getElem?_map,List.getElem?_zipIdx,List.getElem?_map]
  by_cases q:i < gs.length
  ·rw[List.getElem?_eq_getElem q,List.getElem?_range q]
   show some (D.tup [.int ((0+i:Nat):Int),gZ gs[i]])=some (D.tup [.int i,gZ (gs.getD i (0,[],false))])
   rw[Nat.zero_add,List.getD_eq_getElem?_getD,List.getElem?_eq_getElem q];rfl
  ·rw[List.getElem?_eq_none (by omega),List.getElem?_eq_none (by simp;omega)];rfl
 rw[e]
 unfold iA
 refine NT.mS (fun i:Nat=>match gs[i]? with | some g=>!g.2.2 | none=>false) (fun i:Nat=>D.tup [.int i,gZ (gs.getD i (0,[],false))]) nI fun i hi=>?_
 rw[List.mem_range] at hi
 refine⟨[.val (.int i), .val (gZ (gs.getD i (0,[],false)))],rfl,?_,fun _=>rfl⟩
 rw[List.getElem?_eq_getElem hi,List.getD_eq_getElem?_getD,List.getElem?_eq_getElem hi]
 rfl
theorem uk(NO:i9 ins gs os)(hc:ins.length=c)(hc1:c≤10)(ho:∀x∈os,1≤x.2.length∧x.2.length≤3)(hS:jZ S){Q:V3→aN→Prop}(h:Q (.d .cS) (TS S c ins gs os)) :
 W3 (cg [.loc S.length, .d (cb ins gs os)] (S++[.ins 1 []])) Q:=by
 have hz:sizeLine=16777216:=sizeLine_eq
 unfold cg
 refine HM rfl ?_
 simp only[bG,dG,List.map_cons,List.map_nil,List.length_cons,List.length_nil,List.replicate,List.cons_append,List.nil_append,Nat.reduceAdd,Nat.reduceSub]
 unfold gI
 have l1:(S++[SO.ins 1 []]).length=S.length+1:=by simp
 have g0:∀(x y:SO),(S++[x,y])[S.length]? =some x:=fun x y=>by rw[List.getElem?_append_right (Nat.le_refl _),Nat.sub_self];rfl
 have g1:∀(x y:SO),(S++[x,y])[S.length+1]? =some y:=fun x y=>by rw[List.getElem?_append_right (by omega),show S.length+1 - S.length=1 by omega];rfl
 have st:∀(x y z:SO),(S++[x,y]).set S.length z=S++[z,y]:=fun x y z=>by rw[List.set_append_right _ _ (Nat.le_refl _),Nat.sub_self];rfl
 have ap:∀(x y:SO),S++[x]++[y]=S++[x,y]:=fun x y=>by simp
 refine aS <| iV (k:=S.length) <| tO <| ay <| cA (d:=cb ins gs os) rfl <| bS <| yw hc hc1 ?_ ⟨rfl,?_⟩
 ·rw[ap];exact Ed hS rfl rfl
 rw[ap]
 refine w_var (v:= .loc S.length) rfl ⟨_,rfl,g0 _ _,by simp,_,rfl,?_⟩
 rw[st,l1]
 have hcl:∀fs:List (Str × V3),g7 (S.length+2) (fs.map (·.2))=true→jZ (S++[.ins 1 fs, .ins 0 (cQ c (cb ins gs os))]):=fun fs hf=>Ed hS hf rfl
 refine aS <| iV (k:=S.length) <| iK (k:=S.length+1) <| w_fld (k:=S.length) <| w_var (v:= .loc S.length) rfl ⟨_,_,rfl,g0 _ _,(by show List.lookup mq [(mq,V3.loc (S.length+1))]=_;rw [List.lookup_cons,beq_self_eq_true]),_,rfl,g1 _ _,uH _ _ (by decide+kernel) (by decide+kernel) (by decide+kernel) (by decide+kernel),?_⟩
 refine ay <| cA (d:= .tup (([]:List Int).map .int)) rfl <| bS <| k4 NO hc ho (hcl _ ?_) (g1 _ _) ?_
 ·show(decide (S.length+1 < S.length+2) && true)=true
  rw[decide_eq_true (by omega)];rfl
 refine w_var (v:= .loc S.length) rfl ⟨_,rfl,g0 _ _,(by decide:1 < 1000),_,rfl,?_⟩
 rw[st]
 refine iV (k:=S.length) <| cA (d:= .lst ((iA gs).map nI)) (gb (By NO.hg rfl)) <| w_var (v:= .loc S.length) rfl ⟨_,rfl,g0 _ _,?_,_,rfl,?_⟩
 ·exact(by decide:2 < 1000)
 rw[st]
 exact h
noncomputable def vm(safe:Bool):Str:=if safe then Str.ofString "safe" else Str.ofString "right"
noncomputable def pt(ws:List M)(x:Str × List Nat)(p:Nat):Bool × Bool:=GP ((tell ws x).map (· p))
noncomputable def mf(safe:Bool)(c:Nat)(ins:List (Str × Nat))(gs:List Gt)(os:List (Str × List Nat))(turned:List Int):M:=fun p=>os.any fun x=>brk safe (pt (Wd c ins gs [] []) x p) (pt (Wd c ins gs turned []) x p)
theorem oz{b:Nat}(NO:i9 ins gs os)(hc:ins.length=c)(ho:∀x∈os,1≤x.2.length∧x.2.length≤3)(hS:jZ S)(hk:S[k]? =some (.ins 1 (f_ c ins gs os b)))(hb:S[b]? =some (.ins 0 (cQ c (cb ins gs os)))){Q:V3→aN→Prop}
 (h:Q (.d (mI (2 ^ c) (mf safe c ins gs os turned))) S):W3 (bX [.loc k, .d (.tup (turned.map .int)), .d (.str (vm safe))] S) Q:=by
 have hz:sizeLine=16777216:=sizeLine_eq
 unfold bX
 refine jW hS (qX rfl ?_)
 simp only[bG,ei,List.map_cons,List.map_nil,List.length_cons,List.length_nil,List.replicate,List.cons_append,List.nil_append,Nat.reduceAdd,Nat.reduceSub]
 unfold gc
 have h0:D.int 0=mI (2 ^ c) fun _=>false:=by
  unfold mI
  rw[vh.mpr fun _ _=>rfl];rfl
 refine aS <| bz (by simp only[List.length_cons,List.length_nil,List.length_set];omega) <| cA (d:=mI (2 ^ c) fun _=>false) (by rw[←h0];rfl) ⟨_,rfl,?_⟩
 simp only[List.set_cons_succ,List.set_cons_zero]
 refine aS <| f7 <| HB <| w_fld (k:=k) <| w_var (v:= .loc k) rfl ⟨_,_,rfl,hk,AN,?_⟩
 refine iK (k:=b) <| w_fld (k:=k) <| w_var (v:= .loc k) rfl ⟨_,_,rfl,hk,mZ,_,rfl,hb,uH _ _ (by decide+kernel) (by decide+kernel) (by decide+kernel) (by decide+kernel),?_⟩
 refine ay <| cA (d:= .tup (turned.map .int)) rfl <| bS <| k4 NO hc ho hS hb ⟨_,_,_,_,rfl,rfl,rfl,rfl,?_⟩
 have hzip:uG (zR (2 ^ c) os (Wd c ins gs [] [])) (zR (2 ^ c) os (Wd c ins gs turned []))=os.map fun x=> .tup [.tup [mI (2 ^ c) (r0 (tell (Wd c ins gs [] []) x)),mI (2 ^ c) (r1 (tell (Wd c ins gs [] []) x))], .tup [mI (2 ^ c) (r0 (tell (Wd c ins gs turned []) x)),mI (2 ^ c) (r1 (tell (Wd c ins gs turned []) x))]]:=by
  unfold uG zR
  rw[List.zip_map',List.map_map];rfl
 rw[hzip]
 refine(cv (fun i δ S2=>S2=S∧∃a4 a5,δ=[some (.loc k),some (.d (.tup (turned.map .int))),some (.d (.str (vm safe))),some (.d (mI (2 ^ c) fun p=>(os.take i).any fun x=>brk safe (pt (Wd c ins gs [] []) x p) (pt (Wd c ins gs turned []) x p))),a4,a5])
  ⟨rfl,none,none,rfl⟩ ?_).mono fun o S2 ⟨δ2,e2',hS2,a4,a5,hδ⟩=>⟨δ2,e2',?_⟩
 ·rintro i v δ S2 hv ⟨rfl,a4,a5,rfl⟩
  obtain⟨x,hx,rfl⟩:=NT.i4 hv
  generalize hm:(fun p=>(os.take i).any fun x=>brk safe (pt (Wd c ins gs [] []) x p) (pt (Wd c ins gs turned []) x p))=m
  have hnext:(fun p=>(os.take (i+1)).any fun x=>brk safe (pt (Wd c ins gs [] []) x p) (pt (Wd c ins gs turned []) x p))=fun p=>m p || brk safe (pt (Wd c ins gs [] []) x p) (pt (Wd c ins gs turned []) x p):=by
   funext p
   rw[List.take_add_one,hx,List.any_append,←hm]
   simp
  rw[hnext]
  refine⟨[some (.loc k),some (.d (.tup (turned.map .int))),some (.d (.str (vm safe))),some (.d (mI (2 ^ c) m)),some (.d (.tup [mI (2 ^ c) (r0 (tell (Wd c ins gs [] []) x)),mI (2 ^ c) (r1 (tell (Wd c ins gs [] []) x))])),some (.d (.tup [mI (2 ^ c) (r0 (tell (Wd c ins gs turned []) x)),mI (2 ^ c) (r1 (tell (Wd c ins gs turned []) x))]))],rfl,?_⟩
  unfold hV
  refine q8 <| vz (b:=safe) (fk (a:= .str (vm safe)) (b:= .str (Str.ofString "safe")) rfl rfl ?_) ?_
  ·show R.ok (D.bl (vm safe==Str.ofString "safe"))=_
   congr 2
   cases safe <;> decide+kernel
  cases safe with
  | true=>
    rw[if_pos rfl]
    refine bz (by simp only[List.length_cons,List.length_nil,List.length_set];omega) <| cA (aD (aD (a:=mI (2 ^ c) m) rfl (aD (aD rfl rfl yM) (aD rfl rfl zU) (pU _ _ _)) (vP _ _ _)) (aD (aD rfl rfl zU) (aD rfl rfl yM) (pU _ _ _)) (vP _ _ _)) ⟨_,rfl,rfl,some (.d (.tup [mI (2 ^ c) (r0 (tell (Wd c ins gs [] []) x)),mI (2 ^ c) (r1 (tell (Wd c ins gs [] []) x))])),some (.d (.tup [mI (2 ^ c) (r0 (tell (Wd c ins gs turned []) x)),mI (2 ^ c) (r1 (tell (Wd c ins gs turned []) x))])),?_⟩
    simp only[List.set_cons_succ,List.set_cons_zero]
    congr 6
    refine vF fun p _=>?_
    rw[Bool.or_assoc];rfl
  | false=>
    rw[if_neg (by decide)]
    refine bz (by simp only[List.length_cons,List.length_nil,List.length_set];omega) <| cA (aD (aD (a:=mI (2 ^ c) m) rfl (aD (aD rfl rfl yM) (aD rfl rfl yM) (vH _ _ _)) (vP _ _ _)) (aD (aD rfl rfl zU) (aD rfl rfl zU) (vH _ _ _)) (vP _ _ _)) ⟨_,rfl,rfl,some (.d (.tup [mI (2 ^ c) (r0 (tell (Wd c ins gs [] []) x)),mI (2 ^ c) (r1 (tell (Wd c ins gs [] []) x))])),some (.d (.tup [mI (2 ^ c) (r0 (tell (Wd c ins gs turned []) x)),mI (2 ^ c) (r1 (tell (Wd c ins gs turned []) x))])),?_⟩
    simp only[List.set_cons_succ,List.set_cons_zero]
    congr 6
    refine vF fun p _=>?_
    rw[Bool.or_assoc];rfl
 rw[List.length_map,List.length_map,List.take_length] at hδ
 subst hδ hS2
 exact ef <| cA (d:=mI (2 ^ c) (mf safe c ins gs os turned)) rfl ⟨_,rfl,by unfold d9;rfl,⟨[],by simp⟩,_,by unfold res;rfl,h⟩
end
end K19
end
section
set_option maxRecDepth 100000
set_option maxHeartbeats 4000000
namespace K19
open PySem PySem.Spec PyProof.Rows L2 L3 MT
noncomputable def nZ(ps:List Nat):List Int:=ps.map fun(n:Nat)=>(n:Int)
theorem JR(ps:List Nat):(nZ ps).map D.int=ps.map nI:=by unfold nZ;rw [List.map_map];rfl
section
variable {c:Nat} {ins:List (Str × Nat)} {gs:List Gt} {os:List (Str × List Nat)} {S:aN} {k:Nat} {safe:Bool}
noncomputable def tZ(T:List Nat)(p:Nat):D:= .tup [.str (Str.ofString "breaks"),g8 T,nI p]
noncomputable def qH:D:= .tup [.str (Str.ofString "bears")]
noncomputable def jQ(safe:Bool)(c:Nat)(ins:List (Str × Nat))(gs:List Gt)(os:List (Str × List Nat))(T:List Nat):Option D:=
 ((List.range (2 ^ c)).filter (mf safe c ins gs os (nZ T))).head?.map (tZ T)
noncomputable def bears(safe:Bool)(c:Nat)(ins:List (Str × Nat))(gs:List Gt)(os:List (Str × List Nat))(m:Nat):D:=
 ((List.range (m+1)).findSome? fun s=>(lM (iA gs) s).findSome? (jQ safe c ins gs os)).getD qH
theorem tM:(iA gs).length≤gs.length:=by
 unfold iA
 exact Nat.le_trans (List.length_filter_le _ _) (by rw[List.length_range];exact Nat.le_refl _)
theorem sj{f:M}{N:Nat}:iY N f=0↔((List.range N).filter f).head? =none:=by
 rw[vh,List.head?_eq_none_iff,List.filter_eq_nil_iff]
 exact⟨fun h i hi=>by rw[h i (List.mem_range.mp hi)];decide,fun h i hi=>by have:=h i (List.mem_range.mpr hi);cases hf:f i with | false=>rfl | true=>exact absurd hf this⟩
theorem BS{net sz a6:Option V3}{m:V3}{T:List Nat}(NO:i9 ins gs os)(hc:ins.length=c)(hc1:c≤10)(ho:∀x∈os,1≤x.2.length∧x.2.length≤3)(hS:jZ S) :
 W3 (n9 [net,some m,some (.d (.str (vm safe))),some (.loc S.length),sz,some (.d (g8 T)),a6] (TS S c ins gs os)) fun o S1=>S1=TS S c ins gs os∧(match (jQ safe c ins gs os T).map V3.d with | some v=>o= .rt v | none=>∃δ2,o= .nx δ2∧∃b6,δ2=[net,some m,some (.d (.str (vm safe))),some (.loc S.length),sz,some (.d (g8 T)),b6]):=by
 have hz:sizeLine=16777216:=sizeLine_eq
 have hk:(TS S c ins gs os)[S.length]? =some (.ins 1 (f_ c ins gs os (S.length+1))):=by unfold TS;rw [List.getElem?_append_right (Nat.le_refl _),Nat.sub_self];rfl
 have hb:(TS S c ins gs os)[S.length+1]? =some (.ins 0 (cQ c (cb ins gs os))):=by unfold TS;rw [List.getElem?_append_right (by omega),show S.length+1 - S.length=1 by omega];rfl
 have hcl:jZ (TS S c ins gs os):=Ed hS (by
  show(decide (S.length+1 < S.length+2) && true)=true
  rw[decide_eq_true (by omega)];rfl) rfl
 unfold n9
 refine aS <| bz (by simp only[List.length_cons,List.length_nil,List.length_set];omega) <| iK (k:=S.length) <| w_var (v:= .loc S.length) rfl ⟨_,rfl,hk,AR _ (by decide+kernel) (by decide+kernel) (by decide+kernel),?_⟩
 refine ay <| cA (d:= .tup ((nZ T).map .int)) (by rw[JR];rfl) <| ay <| cA (d:= .str (vm safe)) rfl <| bS <| oz NO hc ho hcl hk hb ⟨_,rfl,?_⟩
 simp only[List.set_cons_succ,List.set_cons_zero]
 generalize hf:mf safe c ins gs os (nZ T)=f
 have htry:jQ safe c ins gs os T=((List.range (2 ^ c)).filter f).head?.map (tZ T):=by unfold jQ;rw [hf]
 refine q8 <| vz (b:=!(decide (iY (2 ^ c) f=0))) (fk (a:=mI (2 ^ c) f) (b:= .int 0) rfl rfl ?_) ?_
 ·show R.ok (D.bl (!((iY (2 ^ c) f:Int)==0)))=_
  congr 3
  by_cases q:iY (2 ^ c) f=0
  ·rw[q];rfl
  ·rw[decide_eq_false q];exact beq_eq_false_iff_ne.mpr (by omega)
 cases hh:((List.range (2 ^ c)).filter f).head? with
 | none=>
   rw[htry,hh,decide_eq_true (sj.mpr hh),if_neg (by decide)]
   exact oj ⟨rfl,_,rfl,_,rfl⟩
 | some p=>
   have hne:¬iY (2 ^ c) f=0:=fun q=>by rw[sj.mp q] at hh;cases hh
   rw[htry,hh,decide_eq_false hne,if_pos (by decide)]
   refine ef <| sN <| ay <| cA (d:= .str (Str.ofString "breaks")) rfl <| ay <| cA (d:=g8 T) rfl <| ay <| yY <| iK (k:=S.length+1) <| w_fld (k:=S.length) <| w_var (v:= .loc S.length) rfl ⟨_,_,rfl,hk,mZ,_,rfl,hb,uH _ _ (by decide+kernel) (by decide+kernel) (by decide+kernel) (by decide+kernel),?_⟩
   refine ay <| cA (d:=mI (2 ^ c) f) rfl <| bS <| j1 hc1 hcl hb <| cA (d:= .int 0) rfl ⟨_,_,nI p,rfl,rfl,?_,bS ⟨by simp;omega,rfl,rfl⟩⟩
   refine jB ?_
   obtain⟨r,hr⟩:∃r,(List.range (2 ^ c)).filter f=p ::r:=by
    cases q:(List.range (2 ^ c)).filter f with
    | nil=>rw [q] at hh;cases hh
    | cons a r=>rw [q] at hh;cases hh;exact⟨r,rfl⟩
   rw[hr,i3 (by omega) (by simp)]
   rfl
theorem vx{m:Nat}(NO:i9 ins gs os)(hc:ins.length=c)(hc1:c≤10)(ho:∀x∈os,1≤x.2.length∧x.2.length≤3)(hg:gs.length≤100)(hm:m≤3)(hS:jZ S){Q:V3→aN→Prop}(h:Q (.d (bears safe c ins gs os m)) S) :
 W3 (lu [.d (cb ins gs os), .d (nI m), .d (.str (vm safe))] S) Q:=by
 have hz:sizeLine=16777216:=sizeLine_eq
 have hk:(TS S c ins gs os)[S.length]? =some (.ins 1 (f_ c ins gs os (S.length+1))):=by unfold TS;rw [List.getElem?_append_right (Nat.le_refl _),Nat.sub_self];rfl
 unfold lu
 refine jW hS (qX rfl ?_)
 simp only[bG,pP,List.map_cons,List.map_nil,List.length_cons,List.length_nil,List.replicate,List.cons_append,List.nil_append,Nat.reduceAdd,Nat.reduceSub]
 unfold tT
 refine aS <| bz (by simp only[List.length_cons,List.length_nil,List.length_set];omega) <| tO <| ay <| cA (d:=cb ins gs os) rfl <| bS <| uk NO hc hc1 ho hS ⟨rfl,_,rfl,?_⟩
 simp only[List.set_cons_succ,List.set_cons_zero]
 refine Gu <| f7 <| lO (ds:=(List.range (m+1)).map nI) ?_ ?_
 ·rw[←sY]
  exact gq (n:=m+1) (aD (a:=nI m) (b:= .int 1) rfl rfl rfl) (by omega)
 rw[List.map_map]
 refine(mz (S:=TS S c ins gs os) (V3.d ∘ nI) (fun s=>((lM (iA gs) s).findSome? (jQ safe c ins gs os)).map V3.d) (fun δ=>∃a4 a5 a6,δ=[some (.d (cb ins gs os)),some (.d (nI m)),some (.d (.str (vm safe))),some (.loc S.length),a4,a5,a6])
  ⟨_,_,_,rfl⟩ ?_).mono fun o S1 ⟨e1,h1⟩=>?_
 ·rintro s hs δ ⟨a4,a5,a6,rfl⟩
  rw[List.mem_range] at hs
  have hul:(iA gs).length≤100:=Nat.le_trans tM hg
  have hcs:dH 4 [.lst ((iA gs).map nI), .int s]= .ok (.lst ((lM (iA gs) s).map g8)):=qF 3 s (iA gs) (by omega) (by omega) hul
  refine⟨[some (.d (cb ins gs os)),some (.d (nI m)),some (.d (.str (vm safe))),some (.loc S.length),some (.d (nI s)),a5,a6],rfl,?_⟩
  unfold rW
  refine f7 <| nK <| pG <| ay <| w_fld (k:=S.length) <| w_var (v:= .loc S.length) rfl ⟨_,_,rfl,hk,Bo,ay <| cA (d:= .int s) rfl <| bS ⟨[.lst ((iA gs).map nI), .int s],_,rfl,hcs,_,rfl,?_⟩⟩
  rw[List.map_map]
  refine(mz (S:=TS S c ins gs os) (V3.d ∘ g8) (fun T=>(jQ safe c ins gs os T).map V3.d) (fun δ=>∃a5 a6,δ=[some (.d (cb ins gs os)),some (.d (nI m)),some (.d (.str (vm safe))),some (.loc S.length),some (.d (nI s)),a5,a6])
   ⟨_,_,rfl⟩ ?_).mono fun o S1 ⟨e1,h1⟩=>⟨e1,?_⟩
  ·rintro T hT δ ⟨a5,a6,rfl⟩
   refine⟨[some (.d (cb ins gs os)),some (.d (nI m)),some (.d (.str (vm safe))),some (.loc S.length),some (.d (nI s)),some (.d (g8 T)),a6],rfl,?_⟩
   refine(BS NO hc hc1 ho hS).mono fun o S1 ⟨e1,h1⟩=>⟨e1,?_⟩
   cases htt:jQ safe c ins gs os T with
   | none=>rw [htt] at h1;obtain⟨δ2,e2',b6,e3⟩:=h1;exact⟨δ2,e2',_,b6,e3⟩
   | some d=>rw [htt] at h1;exact h1
  ·have hfs:(lM (iA gs) s).findSome? (fun T=>(jQ safe c ins gs os T).map V3.d)=((lM (iA gs) s).findSome? (jQ safe c ins gs os)).map V3.d:=by
    rw[List.map_findSome?];rfl
   rw[hfs] at h1
   cases htt:(lM (iA gs) s).findSome? (jQ safe c ins gs os) with
   | none=>rw [htt] at h1;obtain⟨δ2,e2',b5,b6,e3⟩:=h1;exact⟨δ2,e2',_,b5,b6,e3⟩
   | some d=>rw [htt] at h1;exact h1
 ·subst e1
  have hfs:(List.range (m+1)).findSome? (fun s=>((lM (iA gs) s).findSome? (jQ safe c ins gs os)).map V3.d)=((List.range (m+1)).findSome? fun s=>(lM (iA gs) s).findSome? (jQ safe c ins gs os)).map V3.d:=by
   rw[List.map_findSome?];rfl
  rw[hfs] at h1
  unfold bears at h
  cases htt:(List.range (m+1)).findSome? fun s=>(lM (iA gs) s).findSome? (jQ safe c ins gs os) with
  | none=>
    rw[htt] at h1 h
    obtain⟨δ2,rfl,b4,b5,b6,rfl⟩:=h1
    exact ef <| cA (d:=qH) rfl ⟨_,rfl,by unfold d9;rfl,⟨_,rfl⟩,_,by unfold res;rfl,h⟩
  | some d=>
    rw[htt] at h1 h
    subst h1
    exact⟨_,rfl,by unfold d9;rfl,⟨_,rfl⟩,_,by unfold res;rfl,h⟩
end
section
variable {c:Nat} {ins:List (Str × Nat)} {gs:List Gt} {os:List (Str × List Nat)} {S:aN}
noncomputable def uQ(c:Nat)(f:M):Nat:=((List.range (2 ^ c)).filter f).length
noncomputable def IC(c:Nat)(ins:List (Str × Nat))(gs:List Gt)(os:List (Str × List Nat))(x:Nat):M:=fun p=>mf false c ins gs os (nZ [x]) p !=mf true c ins gs os (nZ [x]) p
noncomputable def nY(c:Nat)(ins:List (Str × Nat))(gs:List Gt)(os:List (Str × List Nat))(x:Nat):D:= .tup [nI x,nI (uQ c (mf true c ins gs os (nZ [x]))),nI (uQ c (IC c ins gs os x))]
theorem y6(NO:i9 ins gs os)(hc:ins.length=c)(hc1:c≤10)(ho:∀x∈os,1≤x.2.length∧x.2.length≤3)(hg:gs.length≤1000)(hS:jZ S){Q:V3→aN→Prop}(h:Q (.loc (S.length+2)) (TS S c ins gs os++[.lst ((iA gs).map (nY c ins gs os))])) :
 W3 (ku [.d (cb ins gs os)] S) Q:=by
 have hz:sizeLine=16777216:=sizeLine_eq
 have hpow:2 ^ c≤1024:=Nat.pow_le_pow_right (by omega) (by omega:c≤10)
 have hul:(iA gs).length≤1000:=Nat.le_trans tM hg
 have hTl:(TS S c ins gs os).length=S.length+2:=by unfold TS;simp
 have hk0:(TS S c ins gs os)[S.length]? =some (.ins 1 (f_ c ins gs os (S.length+1))):=by unfold TS;rw [List.getElem?_append_right (Nat.le_refl _),Nat.sub_self];rfl
 have hb0:(TS S c ins gs os)[S.length+1]? =some (.ins 0 (cQ c (cb ins gs os))):=by unfold TS;rw [List.getElem?_append_right (by omega),show S.length+1 - S.length=1 by omega];rfl
 have hcl0:jZ (TS S c ins gs os):=Ed hS (by
  show(decide (S.length+1 < S.length+2) && true)=true
  rw[decide_eq_true (by omega)];rfl) rfl
 have hk:∀L:List D,(TS S c ins gs os++[SO.lst L])[S.length]? =some (.ins 1 (f_ c ins gs os (S.length+1))):=fun L=>by rw[List.getElem?_append_left (by omega)];exact hk0
 have hb:∀L:List D,(TS S c ins gs os++[SO.lst L])[S.length+1]? =some (.ins 0 (cQ c (cb ins gs os))):=fun L=>by rw[List.getElem?_append_left (by omega)];exact hb0
 have hcl:∀L:List D,jZ (TS S c ins gs os++[SO.lst L]):=fun L=>jZ.push hcl0 fun _=>rfl
 have hlst:∀L:List D,(TS S c ins gs os++[SO.lst L])[S.length+2]? =some (.lst L):=fun L=>by rw[←hTl];exact bt _ _
 unfold ku
 refine qX rfl ?_
 simp only[bG,lG,List.map_cons,List.map_nil,List.length_cons,List.length_nil,List.replicate,List.cons_append,List.nil_append,Nat.reduceAdd,Nat.reduceSub]
 unfold n8
 refine aS <| bz (by simp only[List.length_cons,List.length_nil,List.length_set];omega) <| tO <| ay <| cA (d:=cb ins gs os) rfl <| bS <| uk NO hc hc1 ho hS ⟨rfl,_,rfl,?_⟩
 simp only[List.set_cons_succ,List.set_cons_zero]
 refine aS <| bz (by simp only[List.length_cons,List.length_nil,List.length_set];omega) <| iC (ds:=[]) rfl ⟨_,rfl,?_⟩
 simp only[List.set_cons_succ,List.set_cons_zero]
 rw[hTl]
 refine aS <| f7 <| nK <| w_fld (k:=S.length) <| w_var (v:= .loc S.length) rfl ⟨_,_,rfl,hk _,Bo,_,rfl,?_⟩
 refine(cv (fun i δ S2=>S2=TS S c ins gs os++[.lst (((iA gs).take i).map (nY c ins gs os))]∧∃a3 a4 a5,δ=[some (.d (cb ins gs os)),some (.loc S.length),some (.loc (S.length+2)),a3,a4,a5]) ⟨by simp,_,_,_,rfl⟩ ?_).mono fun o S2 ⟨δ2,e2',hS2,a3,a4,a5,hδ⟩=>⟨δ2,e2',?_⟩
 ·rintro i v δ S2 hv ⟨rfl,a3,a4,a5,rfl⟩
  obtain⟨x,hx,rfl⟩:=NT.i4 hv
  have hil:=(List.getElem?_eq_some_iff.mp hx).1
  have hnx:((iA gs).take (i+1)).map (nY c ins gs os)=((iA gs).take i).map (nY c ins gs os)++[nY c ins gs os x]:=by rw[List.take_add_one,hx,List.map_append];rfl
  rw[hnx]
  have hLl:(((iA gs).take i).map (nY c ins gs os)).length≤1000:=by rw[List.length_map,List.length_take];omega
  generalize ((iA gs).take i).map (nY c ins gs os)=L at hLl ⊢
  refine⟨[some (.d (cb ins gs os)),some (.loc S.length),some (.loc (S.length+2)),some (.d (nI x)),a4,a5],rfl,?_⟩
  unfold oS
  refine aS <| bz (by simp only[List.length_cons,List.length_nil,List.length_set];omega) <| iK (k:=S.length) <| w_var (v:= .loc S.length) rfl ⟨_,rfl,hk _,AR _ (by decide+kernel) (by decide+kernel) (by decide+kernel),?_⟩
  refine ay <| cA (d:= .tup ((nZ [x]).map .int)) (eh (ds:=(nZ [x]).map .int) rfl (by unfold nZ;simp;omega)) <| ay <| cA (d:= .str (vm true)) rfl <| bS <| oz NO hc ho (hcl _) (hk _) (hb _) ⟨_,rfl,?_⟩
  simp only[List.set_cons_succ,List.set_cons_zero]
  refine aS <| bz (by simp only[List.length_cons,List.length_nil,List.length_set];omega) <| zV <| iK (k:=S.length) <| w_var (v:= .loc S.length) rfl ⟨_,rfl,hk _,AR _ (by decide+kernel) (by decide+kernel) (by decide+kernel),?_⟩
  refine ay <| cA (d:= .tup ((nZ [x]).map .int)) (eh (ds:=(nZ [x]).map .int) rfl (by unfold nZ;simp;omega)) <| ay <| cA (d:= .str (vm false)) rfl <| bS <| oz NO hc ho (hcl _) (hk _) (hb _) <| cA (d:=mI (2 ^ c) (mf true c ins gs os (nZ [x]))) rfl ⟨_,_,_,rfl,rfl,vH _ _ _,_,rfl,?_⟩
  simp only[List.set_cons_succ,List.set_cons_zero]
  have lenI:∀f:M,cP [.lst (((List.range (2 ^ c)).filter f).map nI)]= .ok (nI (uQ c f)):=fun f=>by rw[kL,List.length_map];rfl
  refine gW (k:=S.length+2) rfl ⟨_,hlst _⟩ <| sN <| ay <| cA (d:=nI x) rfl <| ay <| pG <| ay <| iK (k:=S.length+1) <| w_fld (k:=S.length) <| w_var (v:= .loc S.length) rfl ⟨_,_,rfl,hk _,mZ,_,rfl,hb _,uH _ _ (by decide+kernel) (by decide+kernel) (by decide+kernel) (by decide+kernel),?_⟩
  refine ay <| cA (d:=mI (2 ^ c) (mf true c ins gs os (nZ [x]))) rfl <| bS <| j1 hc1 (hcl _) (hb _) <| bS ⟨[_],_,rfl,lenI _,?_⟩
  refine ay <| pG <| ay <| iK (k:=S.length+1) <| w_fld (k:=S.length) <| w_var (v:= .loc S.length) rfl ⟨_,_,rfl,hk _,mZ,_,rfl,hb _,uH _ _ (by decide+kernel) (by decide+kernel) (by decide+kernel) (by decide+kernel),?_⟩
  refine ay <| cA (d:=mI (2 ^ c) (IC c ins gs os x)) rfl <| bS <| j1 hc1 (hcl _) (hb _) <| bS ⟨[_],_,rfl,lenI _,?_⟩
  refine bS ⟨by simp;omega,nY c ins gs os x,L,rfl,hlst _,by omega,_,rfl,?_,_,_,_,rfl⟩
  rw[←hTl,d6]
 ·subst hδ hS2
  rw[List.length_map,List.length_map,List.take_length]
  exact ef <| w_var (v:= .loc (S.length+2)) rfl ⟨_,rfl,h⟩
theorem za(NO:i9 ins gs os)(hc:ins.length=c)(hc1:c≤10)(ho:∀x∈os,1≤x.2.length∧x.2.length≤3)(hg:gs.length≤1000)(hS:jZ S){Q:V3→aN→Prop}(h:Q (.d (.lst ((iA gs).map (nY c ins gs os)))) S) :
 W3 (mM [.d (cb ins gs os)] S) Q:=by
 have hTl:(TS S c ins gs os).length=S.length+2:=by unfold TS;simp
 refine jW hS (y6 NO hc hc1 ho hg hS ⟨?_,⟨_,by unfold TS;rw [List.append_assoc]⟩, .lst ((iA gs).map (nY c ins gs os)),?_,h⟩)
 ·show decide (S.length≤S.length+2)=true
  exact decide_eq_true (by omega)
 ·unfold res
  rw[←hTl,bt]
end
end K19
end
section
set_option maxRecDepth 100000
set_option maxHeartbeats 4000000
namespace K19
open PySem PySem.Spec PyProof.Rows L2 L3 MT
noncomputable abbrev Ct:Str:=Str.ofString "abcdefghijklmnopqrstuvwxyz"
noncomputable abbrev mj:List Str:=[Str.ofString "in",Str.ofString "gate",Str.ofString "sure",Str.ofString "out",Str.ofString "not",Str.ofString "and",Str.ofString "or",Str.ofString "xor",Str.ofString "vote"]
noncomputable def cK(i:Nat):Str:=⟨#[97+i]⟩
theorem zM:Ct.cps.toList=(List.range 26).map (97+·):=by decide+kernel
theorem DP:Ct.length=26:=by decide+kernel
theorem Ar{i:Int}(h0:0≤i)(h:i < 26):cD (.str Ct) (.int i)= .ok (.str (cK i.toNat)):=by
 have hz:sizeLine=16777216:=sizeLine_eq
 refine AI (by rw[DP];omega) ?_
 rw[zM]
 rw[i3 h0 (by simp;omega)]
 simp
theorem Be:∀i:Nat,i < 26→Txt.find Ct (cK i)=(i:Int):=by decide+kernel
theorem fS(i:Nat):(cK i).length=1:=rfl
theorem lE(a b:Str):(a++b).length=a.length+b.length:=Str.length_append a b
theorem C6(p:Str)(i:Nat)(hp:p.length < 1000):cD (.str (p++cK i)) (.int (-1))= .ok (.str (cK i)):=by
 have hz:sizeLine=16777216:=sizeLine_eq
 refine AI (by rw[lE,fS];omega) ?_
 rw[pM]
 unfold o_ qa
 have hl:(p.cps.toList++(cK i).cps.toList).length=p.cps.toList.length+1:=by rw[List.length_append];rfl
 rw[if_neg (by omega),hl,if_pos (by omega)]
 show(p.cps.toList++(cK i).cps.toList)[((-1:Int)+((p.cps.toList.length+1:Nat):Int)).toNat]? =_
 rw[show((-1:Int)+((p.cps.toList.length+1:Nat):Int)).toNat=p.cps.toList.length by omega,List.getElem?_append_right (Nat.le_refl _),Nat.sub_self]
 rfl
theorem Ao(p:Str)(i:Nat):Txt.slice (p++cK i) none (some (-1))=p:=by
 have h:=slice_closes_to_neg (x:=p++cK i) (j:= -1) (k:=p.length) (by omega) (by rw[lE,fS];omega) (by rw[lE,fS];omega)
 have e:=beq_iff_eq.mp h
 rw[e]
 refine Dq ?_
 show((p++cK i).cps.toList.drop 0).take ((p.length:Int) - 0).toNat=_
 rw[pM,List.drop_zero,show((p.length:Int) - 0).toNat=p.cps.toList.length by simp [Str.length],List.take_left]
theorem DT{p:Str}{i j:Nat}(h:p++cK i=p++cK j):i=j:=by
 have h1:(p++cK i).cps.toList=(p++cK j).cps.toList:=by rw[h]
 rw[pM,pM] at h1
 have h2:[97+i]=[97+j]:=List.append_cancel_left h1
 have h3:97+i=97+j:=by simpa using h2
 omega
theorem yZ(ss:List Str)(hs:ss.length≤16)(p:Str)(c:Nat):∃t,t < 26∧¬(p++cK ((c+t) % 26))∈ss++mj:=by
 refine Classical.byContradiction fun hn=>?_
 have all:∀x∈(List.range 26).map (fun t=>p++cK ((c+t) % 26)),x∈ss++mj:=fun x hx=>by
  obtain⟨t,ht,rfl⟩:=List.mem_map.mp hx
  rw[List.mem_range] at ht
  refine Classical.byContradiction fun h=>hn ⟨t,ht,h⟩
 have nd:((List.range 26).map (fun t=>p++cK ((c+t) % 26))).Nodup:=by
  refine List.pairwise_map.mpr (List.Pairwise.imp_of_mem ?_ List.nodup_range)
  intro a b ha hb hab h
  rw[List.mem_range] at ha hb
  have:=DT h
  exact hab (by omega)
 have:=L2.B7 _ _ nd all
 rw[List.length_map,List.length_range,List.length_append] at this
 have hb:mj.length=9:=rfl
 omega
noncomputable def jr(k n:Nat)(many:V3)(kk nm j:Option V3):DE:=[some (.loc k),some many,some (.d (.str Ct)),some (.d (.lst (mj.map .str))),some (.loc n),kk,nm,j]
theorem xF(x:Str)(ss:List Str):qM (.str x) (.lst (ss.map .str))= .ok (.bl (ss.contains x)):=by
 show((match strs? (ss.map D.str) with | some tt=>R.ok (tt.contains x) | none=> .no)).bind (fun b=>R.ok (D.bl b))=_
 rw[L2.strs_map];rfl
theorem CO{k n:Nat}{many:V3}{kk j:Option V3}{S:aN}{ss:List Str}{x:Str}(e:S[n]? =some (.lst (ss.map .str))) :
 bT (xw (b2 qM (ai 6) (ai 4)) (b2 qM (ai 6) (ai 3))) (jr k n many kk (some (.d (.str x))) j) S= .ok (decide (x∈ss++mj)) S:=by
 have h4:(bY S (jr k n many kk (some (.d (.str x))) j))[4]? =some (.val (.lst (ss.map .str))):=by
  unfold bY jr
  show some (match res S (.loc n) with | some d=>Sl.val d | none=> .un)=_
  unfold res
  simp only[e]
 have h3:(bY S (jr k n many kk (some (.d (.str x))) j))[3]? =some (.val (.lst (mj.map .str))):=rfl
 have h6:(bY S (jr k n many kk (some (.d (.str x))) j))[6]? =some (.val (.str x)):=rfl
 unfold bT
 generalize bY S (jr k n many kk (some (.d (.str x))) j)=δ at h3 h4 h6
 have e1:b2 qM (ai 6) (ai 4) δ= .ok (ss.contains x):=fk (a:= .str x) (b:= .lst (ss.map .str)) (by unfold ai;rw [h6]) (by unfold ai;rw [h4]) (xF _ _)
 have e3:b2 qM (ai 6) (ai 3) δ= .ok (mj.contains x):=fk (a:= .str x) (b:= .lst (mj.map .str)) (by unfold ai;rw [h6]) (by unfold ai;rw [h3]) (xF _ _)
 have:xw (b2 qM (ai 6) (ai 4)) (b2 qM (ai 6) (ai 3)) δ= .ok (decide (x∈ss++mj)):=by
  unfold xw
  rw[e1,R.aM,e3]
  by_cases h:x∈ss
  ·rw[if_pos (by simpa using h),decide_eq_true (List.mem_append_left _ h)]
  ·rw[if_neg (by simpa using h)]
   congr 1
   by_cases h2:x∈mj
   ·rw[decide_eq_true (List.mem_append_right _ h2)];simpa using h2
   ·rw[decide_eq_false (fun z=>(List.mem_append.mp z).elim h h2)];simpa using h2
 rw[this]
 rfl
theorem C2{k n:Nat}{many:V3}{kk j:Option V3}{S:aN}{p:Str}{c:Nat}(hp:p.length < 500)(hc:c < 26) :
 W3 (gQ (jr k n many kk (some (.d (.str (p++cK c)))) j) S) fun o S1=>o= .nx (jr k n many kk (some (.d (.str (p++cK ((c+1) % 26))))) j)∧S1=S:=by
 have hz:sizeLine=16777216:=sizeLine_eq
 unfold gQ
 refine bz (by unfold jr;simp only[List.length_cons,List.length_nil];omega) (cA (d:= .str (p++cK ((c+1) % 26))) ?_ ⟨rfl,rfl⟩)
 refine aD (a:= .str p) (b:= .str (cK ((c+1) % 26))) ?_ ?_ (x4 (by rw[fS];omega))
 ·refine xl (d:= .str (p++cK c)) (lo:=none) (hi:=some (-1)) rfl rfl rfl ?_
  rw[GQ (by rw[lE,fS];omega),Ao]
 ·refine aD (a:= .str Ct) (b:= .int (((c:Int)+1) % 26)) rfl ?_ ?_
  ·refine aD (a:= .int ((c:Int)+1)) (b:= .int 26) (aD (a:= .int c) (b:= .int 1) ?_ rfl rfl) rfl (wO (by omega))
   refine C3 (x:=Ct) (ds:=[.str (cK c)]) rfl (aQ (aD (a:= .str (p++cK c)) (b:= .int (-1)) rfl rfl (C6 p c (by omega))) rfl) ?_
   show R.ok (D.int (Txt.find Ct (cK c)))=_
   rw[Be c hc]
  ·rw[Ar (by omega) (by omega)]
   congr 3
theorem vK{k n:Nat}{many:V3}{kk j:Option V3}{S:aN}{ss:List Str}{p:Str}(hp:p.length < 500)(e:S[n]? =some (.lst (ss.map .str))) :
 ∀(m ex c:Nat),c < 26→(∃t,t < m∧¬(p++cK ((c+t) % 26))∈ss++mj)→
 W3 (lF (bT (xw (b2 qM (ai 6) (ai 4)) (b2 qM (ai 6) (ai 3)))) gQ (m+ex) (jr k n many kk (some (.d (.str (p++cK c)))) j) S) fun o S1=>∃c',c' < 26∧o= .nx (jr k n many kk (some (.d (.str (p++cK c')))) j)∧S1=S
 | 0,_,_,_,⟨t,ht,_⟩=>by omega
 | m+1,ex,c,hc,⟨t,ht,hf⟩=>by
   rw[show m+1+ex=(m+ex)+1 by omega]
   unfold lF
   refine W3.bind (W3.eq (CO e) ?_)
   by_cases hx:(p++cK c)∈ss++mj
   ·rw[decide_eq_true hx,if_pos rfl]
    refine W3.bind ((C2 hp hc).mono fun o S1 ⟨e1,e2'⟩=>?_)
    subst e1 e2'
    have ht0:t≠0:=fun z=>by subst z;rw [Nat.add_zero,Nat.mod_eq_of_lt hc] at hf;exact hf hx
    refine vK hp e m ex ((c+1) % 26) (by omega) ⟨t - 1,by omega,?_⟩
    rw[show((c+1) % 26+(t - 1)) % 26=(c+t) % 26 by omega]
    exact hf
   ·rw[decide_eq_false hx,if_neg (by decide)]
    exact W3.ok ⟨c,hc,rfl,rfl⟩
end K19
end
section
set_option maxRecDepth 100000
set_option maxHeartbeats 4000000
namespace K19
open PySem PySem.Spec PyProof.Rows L2 L3 MT
structure uc (k g:Nat) (L:List D) (S S1:aN):Prop where
 p:pE k S1
 len:S1.length=S.length
 oth:∀j,j≠k→j≠g→S1[j]? =S[j]?
 gl:S1[g]? =some (.lst L)
theorem uc.then{k g:Nat}{L:List D}{S S1 S2:aN}(a:uc k g L S S1)(h:g≠k)(b:Ev k S1 S2):uc k g L S S2:=⟨b.p,b.len.trans a.len,fun j h1 h2=>(b.oth j h1).trans (a.oth j h1 h2),(b.oth g h).trans a.gl⟩
theorem uc.put{k g:Nat}{L L':List D}{S S1:aN}(a:uc k g L S S1)(h:g≠k):uc k g L' S (S1.set g (.lst L')):=by
 obtain⟨hL,x,c,e⟩:=a.p
 exact⟨⟨hL.set _ (l7 _),x,c,by rw[List.getElem?_set_ne h];exact e⟩,by rw[List.length_set];exact a.len,fun j h1 h2=>by rw[List.getElem?_set_ne (Ne.symm h2)];exact a.oth j h1 h2,jk a.gl⟩
theorem pE.push{k:Nat}{S:aN}(p:pE k S)(L:List D):pE k (S++[.lst L]):=by
 have h:=p.lt
 obtain⟨hL,a,c,e⟩:=p
 exact⟨hL.push (l7 _),a,c,by rw[List.getElem?_append_left h];exact e⟩
theorem uc.sV{k:Nat}{S:aN}(p:pE k S)(L:List D):uc k S.length L (S++[.lst L]) (S++[.lst L]):=⟨p.push L,rfl,fun _ _ _=>rfl,bt _ _⟩
noncomputable def qu:List Str:=[Str.ofString "",Str.ofString "",Str.ofString "zz",Str.ofString "qrst"]++mj
theorem BE(r:Int)(h0:0≤r)(h:r < 13):∃s:Str,s.length≤4∧cD (.lst (qu.map .str)) (.int r)= .ok (.str s):=by
 have hl:qu.length=13:=rfl
 have hlen:∀s∈qu,s.length≤4:=by decide+kernel
 refine⟨qu[r.toNat]'(by omega),hlen _ (List.getElem_mem _),jB ?_⟩
 rw[i3 h0 (by rw[List.length_map];omega)]
 simp
theorem zt{k n:Nat}{many:V3}{kk nm j:Option V3}{S S1:aN}{ss:List Str}(hn:n≠k)(hl:ss.length≤15)(E:uc k n (ss.map .str) S S1) :
 W3 (jv (jr k n many kk nm j) S1) fun o S2=>∃δ2,o= .nx δ2∧(∃a b,δ2=jr k n many kk a b)∧∃x:Str,uc k n ((ss++[x]).map .str) S S2:=by
 have hz:sizeLine=16777216:=sizeLine_eq
 unfold jv
 refine aS (bz (by unfold jr;simp only[List.length_cons,List.length_nil];omega) (yY (cA (d:= .lst (qu.map .str)) ?_ (draw (k:=k) rfl E.p rfl (by omega) (by omega) fun r S2 h1 h2 v2=>?_))))
 ·exact aD (a:= .lst ([Str.ofString "",Str.ofString "",Str.ofString "zz",Str.ofString "qrst"].map .str)) (b:= .lst (mj.map .str)) (gb (pJ rfl (by simp;omega))) rfl (t9 (by simp;omega))
 obtain⟨s,hs,es⟩:=BE r h1 h2
 refine⟨_,_,_,rfl,rfl,es,_,rfl,?_⟩
 have E2:=E.then hn v2
 show W3 (bu _ _ (jr k n many kk (some (.d (.str s))) j) S2) _
 refine aS (f7 (mR (Ep (k:=k) rfl E2.p (by omega) (by omega) fun r2 S3 h3 h4 v3=>⟨r2,rfl,by omega,?_⟩)))
 have E3:=E2.then hn v3
 refine(cv (fun i δ S4=>∃(x:Str) (a:Option V3),δ=jr k n many kk (some (.d (.str x))) a∧x.length≤4+i∧(i=0∨∃p c,c < 26∧x=p++cK c)∧uc k n (ss.map .str) S S4)
  ⟨s,j,rfl,by omega, .inl rfl,E3⟩ ?_).mono fun o S4 ⟨δ4,e4,x,a,hδ,hx,hx2,E4⟩=>⟨δ4,e4,?_⟩
 ·rintro i v δ S4 hv ⟨x,a,rfl,hx,hx2,E4⟩
  refine⟨jr k n many kk (some (.d (.str x))) (some v),rfl,?_⟩
  have hi:i < 10:=by
   have:=(List.getElem?_eq_some_iff.mp hv).1
   rw[List.length_map,cH,List.length_map,List.length_range] at this
   omega
  unfold lT
  refine bz (by unfold jr;simp only[List.length_cons,List.length_nil];omega) (zV (cA (d:= .str x) rfl (yY (cA (d:= .str Ct) rfl (draw (k:=k) rfl E4.p rfl (by omega) (by omega) fun r5 S5 h5 h6 v5=>?_)))))
  refine⟨_,_,_,rfl,rfl,Ar h5 h6,_,_, .str (x++cK r5.toNat),rfl,rfl,x4 (by rw[fS];omega),_,rfl,x++cK r5.toNat,some v,rfl,by rw[lE,fS];omega, .inr ⟨x,r5.toNat,by omega,rfl⟩,E4.then hn v5⟩
 rw[List.length_map,cH,List.length_map,List.length_range] at hx hx2
 subst hδ
 obtain⟨p,c,hc,rfl⟩:∃p c,c < 26∧x=p++cK c:=hx2.resolve_left (by omega)
 have hp:p.length < 500:=by rw[lE,fS] at hx;omega
 refine aS ?_
 unfold xt
 refine(vK (n:=n) (ss:=ss) hp E4.gl 26 974 c hc (yZ ss (by omega) p c)).mono fun o S5 ⟨c',hc',e5,e6⟩=>⟨_,e5,?_⟩
 subst e6
 refine gW (k:=n) rfl ⟨_,E4.gl⟩ (cA (d:= .str (p++cK c')) rfl ⟨_,_,rfl,E4.gl,by rw[List.length_map];omega,_,rfl,⟨_,_,rfl⟩,p++cK c',?_⟩)
 rw[List.map_append]
 exact E4.put hn
theorem Ai{S:aN}{k:Nat}{m:Nat}(p:pE k S)(hm:m≤15){Q:V3→aN→Prop}(h:∀(ss:List Str) S1,ss.length=m→Ev k S S1→Q (.d (.lst (ss.map .str))) S1):W3 (gn [.loc k, .d (.int m)] S) Q:=by
 have hz:sizeLine=16777216:=sizeLine_eq
 have hk:=p.lt
 unfold gn
 refine qg (qX rfl ?_)
 simp only[bG,je,List.map_cons,List.map_nil,List.length_cons,List.length_nil,List.replicate,List.cons_append,List.nil_append,Nat.reduceAdd,Nat.reduceSub]
 unfold kW
 refine aS (bz (by simp only[List.length_cons,List.length_nil,List.length_set];omega) (cA (d:= .str Ct) rfl ⟨_,rfl,?_⟩))
 simp only[List.set_cons_succ,List.set_cons_zero]
 refine aS (bz (by simp only[List.length_cons,List.length_nil,List.length_set];omega) (cA (d:= .lst (mj.map .str)) (gb (pJ rfl (by simp;omega))) ⟨_,rfl,?_⟩))
 simp only[List.set_cons_succ,List.set_cons_zero]
 refine aS (bz (by simp only[List.length_cons,List.length_nil,List.length_set];omega) (iC (ds:=[]) rfl ⟨_,rfl,?_⟩))
 simp only[List.set_cons_succ,List.set_cons_zero]
 have g0:=uc.sV p []
 have hgk:S.length≠k:=by omega
 refine aS (f7 (lO (gq (n:=m) rfl (by omega)) ?_))
 refine(cv (fun i δ S4=>(∃a b c,δ=jr k S.length (.d (.int m)) a b c)∧∃ss:List Str,ss.length=i∧uc k S.length (ss.map .str) (S++[SO.lst []]) S4) ⟨⟨_,_,_,rfl⟩,[],rfl,g0⟩ ?_).mono fun o S4 ⟨δ4,e4,⟨a,b,c,hδ⟩,ss,hl,g4⟩=>⟨δ4,e4,?_⟩
 ·rintro i v δ S4 hv ⟨⟨a,b,c,rfl⟩,ss,hl,g4⟩
  have hi:i < 15:=by
   have:=(List.getElem?_eq_some_iff.mp hv).1
   rw[List.length_map,cH,List.length_map,List.length_range] at this
   omega
  refine⟨jr k S.length (.d (.int m)) (some v) b c,rfl,?_⟩
  exact(zt hgk (by omega) g4).mono fun o S5 ⟨δ5,e5,⟨a5,b5,h5⟩,x,g5⟩=>⟨δ5,e5,⟨some v,a5,b5,h5⟩,ss++[x],by simp [hl],g5⟩
 rw[List.length_map,cH,List.length_map,List.length_range] at hl
 subst hδ
 unfold jr
 refine ef (w_var rfl ⟨_,rfl,g4.p.1,?_, .lst (ss.map .str),?_,?_⟩)
 ·unfold d9;exact decide_eq_true (Nat.le_refl _)
 ·unfold res;simp only[g4.gl]
 ·refine h ss _ hl ⟨⟨g4.p.1.take _,?_⟩,?_,?_⟩
  ·obtain⟨_,a,c,e⟩:=g4.p
   exact⟨a,c,by rw[List.getElem?_take_of_lt hk];exact e⟩
  ·have:=g4.len
   rw[List.length_append,List.length_singleton] at this
   rw[List.length_take];omega
  ·intro j hj
   by_cases hjl:j < S.length
   ·rw[List.getElem?_take_of_lt hjl,g4.oth _ hj (by omega),List.getElem?_append_left hjl]
   ·have:=g4.len
    rw[List.length_append,List.length_singleton] at this
    rw[List.getElem?_eq_none (by rw[List.length_take];omega),List.getElem?_eq_none (by omega)]
end K19
end
section
set_option maxRecDepth 100000
set_option maxHeartbeats 4000000
namespace K19
open PySem PySem.Spec PyProof.Rows L2 L3 MT
theorem n4{n i:Nat}{d:D}(h:(cH 0 n)[i]? =some d):i < n∧d= .int i:=by
 rw[cH,List.getElem?_map] at h
 cases q:(List.range n)[i]? with
 | none=>rw [q] at h;cases h
 | some j=>
   rw[q] at h;cases h
   obtain⟨q1,q2⟩:=List.getElem?_eq_some_iff.mp q
   rw[List.getElem_range] at q2
   rw[List.length_range] at q1
   subst q2
   exact⟨q1,by simp⟩
theorem tf{ds:List D}{i:Nat}{x:D}(h:ds[i]? =some x):o_ ds (i:Int)=some x:=by
 obtain⟨h1,h2⟩:=List.getElem?_eq_some_iff.mp h
 rw[i3 (by omega) (by rw[Int.toNat_natCast];exact h1)]
 simp [h2]
section
variable {gs:List Gt}
theorem HG{i:Nat}{g:Gt}(h:gs[i]? =some g):cD (.lst (gs.map gZ)) (.int i)= .ok (gZ g):=by
 obtain⟨h1,h2⟩:=List.getElem?_eq_some_iff.mp h
 refine jB ?_
 rw[i3 (by omega) (by rw[List.length_map,Int.toNat_natCast];exact h1)]
 simp [h2]
end
section
variable {S:aN} {δ:DE} {k q i:Nat} {ks:List Int}
theorem xX{Q:V3→aN→Prop}{f:FD}{m:Int}(hv:δ[i]? =some (some (.loc k)))(p:pE k S)(hf:f (bY S δ)= .ok (.int m))(hm:0 < m)(hm2:m < 1000000)
 (h:∀(r:Int) S1,0≤r→r < m→Ev k S S1→Q (.d (.int r)) S1):W3 (bO aF (aw (bC i) (aw (xT f) bH)) δ S) Q:=
 dc (ay (w_var hv (ay (tG hf rfl (bS (tu p hm (rH hm hm2) h))))))
theorem jm{ds:List D}(e:S[q]? =some (.lst ds)):res S (.loc q)=some (.lst ds):=by unfold res;rw [e]
theorem jx(e:S[q]? =some (.lst (ks.map .int)))(hi:δ[i]? =some (some (.loc q))):aP cP (au (ai i) aL) (bY S δ)= .ok (.int ks.length):=by
 refine aT (ds:=[.lst (ks.map .int)]) (aQ ?_ rfl) (by rw[kL,List.length_map])
 unfold ai bY
 rw[List.getElem?_map,hi]
 show(match some (match res S (.loc q) with | some d=>Sl.val d | none=> .un) with | some (.val d)=>R.ok d | _=> .no)=_
 rw[jm e]
theorem Bi{w:Nat}(h:w < ks.length):cD (.lst (ks.map .int)) (nI w)= .ok (.int ks[w]):=jB (tf (by rw[List.getElem?_map,List.getElem?_eq_getElem h];rfl))
theorem xZ{own:List Str}{kp:List Nat}{it:FA}{w:Nat}{Q:V3→aN→Prop}(e:S[q]? =some (.lst (ks.map .int)))(hw:w < ks.length)(hn:ks.length < 10000)(hkp:fY own kp δ=[none,some (.loc q),some (.d (nI w))])
 (hit:W3 (it δ S) fun vs S1=>vs=(cH 0 ks.length).map .d∧S1=S) (h:∀l:List Nat,0 < l.length→l.length < 10000→(∀x∈l,x < ks.length∧ks.getD x 0=ks.getD w 0)→Q (.d (.lst (l.map nI))) S) :
 W3 (gS it (i7 0) (bT (b2 jC (e2 cD (ai 1) (ai 0)) (e2 cD (ai 1) (ai 2)))) (xP (ai 0)) own kp δ S) Q:=by
 have hz:sizeLine=16777216:=sizeLine_eq
 refine h_ (fun i ds S2=>S2=S∧∃l:List Nat,ds=l.map nI∧(∀x∈l,x < ks.length∧ks.getD x 0=ks.getD w 0)∧l.length≤i∧(w < i→0 < l.length)) (hit.mono fun vs S1 ⟨e1,e2'⟩=>?_)
 subst e1 e2'
 have hlen:((cH 0 ks.length).map V3.d).length=ks.length:=by simp [cH]
 rw[hlen]
 refine⟨by omega,⟨rfl,[],rfl,by simp,by simp,by omega⟩,?_,?_⟩
 ·rintro i v ds S2 hv ⟨rfl,l,rfl,hl,hli,hw'⟩
  rw[hkp]
  rw[List.getElem?_map] at hv
  cases qq:(cH 0 ks.length)[i]? with
  | none=>rw [qq] at hv;cases hv
  | some d0=>
    rw[qq] at hv
    obtain⟨hi,rfl⟩:=n4 qq
    cases hv
    refine⟨[some (.d (.int i)),some (.loc q),some (.d (nI w))],rfl,Fb (b:=decide (ks[i]=ks[w])) ?_ ?_⟩
    ·have hT:bY S2 [some (.d (.int i)),some (.loc q),some (.d (nI w))]=[.val (nI i), .val (.lst (ks.map .int)), .val (nI w)]:=by
      simp only[bY,List.map_cons,List.map_nil,jm e]
      rfl
     rw[hT]
     exact fk (a:= .int ks[i]) (b:= .int ks[w]) (aD (a:= .lst (ks.map .int)) (b:=nI i) rfl rfl (Bi hi)) (aD (a:= .lst (ks.map .int)) (b:=nI w) rfl rfl (Bi hw)) rfl
    ·by_cases hc:ks[i]=ks[w]
     ·rw[decide_eq_true hc,if_pos rfl]
      refine cA rfl ⟨nI i,rfl,rfl,l++[i],by simp,?_,by simp;omega,by simp⟩
      intro x hx
      rcases List.mem_append.mp hx with z | z
      ·exact hl x z
      ·rw[List.mem_singleton] at z;subst z;exact⟨hi,by rw[List.getD_eq_getElem?_getD,List.getD_eq_getElem?_getD,List.getElem?_eq_getElem hi,List.getElem?_eq_getElem hw,hc]⟩
     ·rw[decide_eq_false hc,if_neg (by decide)]
      refine⟨rfl,l,rfl,hl,by omega,fun hwi=>hw' ?_⟩
      have:w≠i:=fun z=>hc (by subst z;rfl)
      omega
 ·rintro ds S2 ⟨rfl,l,rfl,hl,hli,hw'⟩
  exact h l (hw' hw) (by omega) hl
theorem xV{f:FX}{fm:FD}{l:List Nat}{Q:V3→aN→Prop}(hf:W3 (f δ S) fun v S1=>v= .d (.lst (l.map nI))∧S1=S)(hv:δ[i]? =some (some (.loc k)))(p:pE k S)(hm:fm (down δ)= .ok (.int l.length))(hl:0 < l.length)(hl2:l.length < 10000)
 (h:∀x S1,x∈l→Ev k S S1→Q (.d (nI x)) S1):W3 (Cw f (bO aF (aw (bC i) (aw (xP fm) bH))) δ S) Q:=by
 refine yY (hf.mono fun v S1 ⟨e1,e2'⟩=>?_)
 subst e1 e2'
 refine draw hv p hm (by omega) (by omega) fun r S2 h1 h2 v2=>⟨_,_,nI (l[r.toNat]'(by omega)),rfl,rfl,jB ?_,h _ S2 (List.getElem_mem _) v2⟩
 rw[i3 h1 (by rw[List.length_map];omega)]
 simp
end
noncomputable def Eh:List D:=[.str (Str.ofString "not"), .str (Str.ofString "and"), .str (Str.ofString "or"), .str (Str.ofString "xor"), .str (Str.ofString "vote"), .str (Str.ofString "xor"), .str (Str.ofString "and")]
noncomputable def JY:List (Key × V):=[((Sum.inr (Str.ofString "not"):Key),V.int 1),((Sum.inr (Str.ofString "vote"):Key),V.int 3)]
theorem Df(r:Nat)(h:r < 7):∃kd,kd≤4∧cD (.lst Eh) (.int r)= .ok (.str (kS kd))∧(match k7 (jA [] JY) (Sum.inr (kS kd)) with | some (.int i)=>R.ok (D.int i) | none=> .ok (.int 2) | _=> .no)= .ok (.int (ar kd)):=by
 match r,h with
 | 0,_=>exact⟨0,by omega,rfl,rfl⟩
 | 1,_=>exact⟨1,by omega,rfl,rfl⟩
 | 2,_=>exact⟨2,by omega,rfl,rfl⟩
 | 3,_=>exact⟨3,by omega,rfl,rfl⟩
 | 4,_=>exact⟨4,by omega,rfl,rfl⟩
 | 5,_=>exact⟨3,by omega,rfl,rfl⟩
 | 6,_=>exact⟨1,by omega,rfl,rfl⟩
theorem xu{S:aN}{δ:DE}{i o:Nat}{ws:List Nat}(hi:δ[i]? =some (some (.loc o)))(e:S[o]? =some (.lst (ws.map nI))):aP fH (au (ai i) aL) (bY S δ)= .ok (.tup (ws.map nI)):=by
 refine aT (ds:=[.lst (ws.map nI)]) (aQ ?_ rfl) rfl
 unfold ai bY
 rw[List.getElem?_map,hi]
 show(match some (match res S (.loc o) with | some d=>Sl.val d | none=> .un) with | some (.val d)=>R.ok d | _=> .no)=_
 rw[jm e]
theorem m6(ws:List Nat):kx (.tup (ws.map nI))=true:=by
 unfold kx
 induction ws with
 | nil=>unfold jl;rfl
 | cons w ws ih=>rw [List.map_cons];unfold jl;rw [ih];rfl
noncomputable def HH{S:aN}{k:Nat}{d:D}{Q:V3→aN→Prop}(h:∀S1,Ev k S S1→Q (.d d) S1){S2:aN}{L:List D}{g:Nat}(E:uc k g L (S++[SO.lst []]) S2)(hg:g=S.length)(hk:k < S.length):Flat S2∧d9 S.length (.d d)=true∧∃d',res S2 (.d d)=some d'∧Q (.d d') (S2.take S.length):=by
 subst hg
 refine⟨E.p.1,by unfold d9;rfl,d,by unfold res;rfl,h _ ⟨⟨E.p.1.take _,?_⟩,?_,?_⟩⟩
 ·obtain⟨_,a,c,e⟩:=E.p
  exact⟨a,c,by rw[List.getElem?_take_of_lt hk];exact e⟩
 ·have:=E.len
  rw[List.length_append,List.length_singleton] at this
  rw[List.length_take];omega
 ·intro j hj
  by_cases hjl:j < S.length
  ·rw[List.getElem?_take_of_lt hjl,E.oth _ hj (by omega),List.getElem?_append_left hjl]
  ·have:=E.len
   rw[List.length_append,List.length_singleton] at this
   rw[List.getElem?_eq_none (by rw[List.length_take];omega),List.getElem?_eq_none (by omega)]
noncomputable def IL(k q o:Nat)(ms kd mn:D)(a6 a7 a8:Option V3):DE:=[some (.loc k),some (.loc q),some (.d ms),some (.d kd),some (.d mn),some (.loc o),a6,a7,a8]
theorem yX{S:aN}{k q:Nat}{ks:List Int}{ms:Int}(p:pE k S)(hq:q≠k)(e:S[q]? =some (.lst (ks.map .int)))(h0:0 < ks.length)(hn:ks.length < 10000){Q:V3→aN→Prop}(h:∀g S1,mN ks.length g→Ev k S S1→Q (.d (gZ g)) S1) :
 W3 (fX [.loc k, .loc q, .d (.int ms)] S) Q:=by
 have hz:sizeLine=16777216:=sizeLine_eq
 have hk:=p.lt
 have hql:q < S.length:=(List.getElem?_eq_some_iff.mp e).1
 unfold fX
 refine qg (qX rfl ?_)
 simp only[bG,j6,List.map_cons,List.map_nil,List.length_cons,List.length_nil,List.replicate,List.cons_append,List.nil_append,Nat.reduceAdd,Nat.reduceSub]
 unfold l8
 refine aS <| bz (by simp only[List.length_cons,List.length_nil,List.length_set];omega) <| yY <| cA (d:= .lst Eh) rfl <| draw (k:=k) rfl p rfl (by omega) (by omega) fun r S1 h1 h2 v1=>?_
 obtain⟨kd,hkd,e1,e2'⟩:=Df r.toNat (by omega)
 rw[Int.toNat_of_nonneg h1] at e1
 refine⟨_,_,_,rfl,rfl,e1,_,rfl,?_⟩
 simp only[List.set_cons_succ,List.set_cons_zero]
 refine aS <| bz (by simp only[List.length_cons,List.length_nil,List.length_set];omega) <| cA (d:= .int (ar kd)) e2' ⟨_,rfl,?_⟩
 simp only[List.set_cons_succ,List.set_cons_zero]
 refine aS <| bz (by simp only[List.length_cons,List.length_nil,List.length_set];omega) <| iC (ds:=[]) rfl ⟨_,rfl,?_⟩
 simp only[List.set_cons_succ,List.set_cons_zero]
 have har:=BP kd
 have hl1:=v1.len
 have E1:=uc.sV v1.p []
 have hok:S1.length≠k:=by omega
 have eq1:S1[q]? =some (.lst (ks.map .int)):=by rw[v1.oth q hq];exact e
 refine aS <| f7 <| lO (gq (n:=ar kd) rfl (by omega)) ?_
 refine(cv (fun i δ S2=>(∃a b c,δ=IL k q S1.length (.int ms) (.str (kS kd)) (.int (ar kd)) a b c)∧∃ws:List Nat,ws.length=i∧(∀w∈ws,w < ks.length)∧uc k S1.length (ws.map nI) (S1++[SO.lst []]) S2)
  ⟨⟨_,_,_,rfl⟩,[],rfl,by simp,E1⟩ ?_).mono fun o S2 ⟨δ2,e3,⟨a,b,c,hδ⟩,ws,hwl,hws,E2⟩=>⟨δ2,e3,?_⟩
 ·rintro i v δ S2 hv ⟨⟨a,b,c,rfl⟩,ws,hwl,hws,E2⟩
  have hi:i < 3:=by
   have:=(List.getElem?_eq_some_iff.mp hv).1
   rw[List.length_map,cH,List.length_map,List.length_range] at this
   omega
  refine⟨IL k q S1.length (.int ms) (.str (kS kd)) (.int (ar kd)) (some v) b c,rfl,?_⟩
  unfold nA IL
  refine aS <| bz (by simp only[List.length_cons,List.length_nil,List.length_set];omega) <| draw (k:=k) rfl E2.p rfl (by omega) (by omega) fun r3 S3 h3 h4 v3=>⟨_,rfl,?_⟩
  simp only[List.set_cons_succ,List.set_cons_zero]
  have E3:=E2.then hok v3
  have eq3:S3[q]? =some (.lst (ks.map .int)):=by rw[E3.oth q hq (by omega),List.getElem?_append_left (by omega)];exact eq1
  refine aS <| bz (by simp only[List.length_cons,List.length_nil,List.length_set];omega) <| xX (k:=k) rfl E3.p (jx eq3 rfl) (by omega) (by omega) fun r4 S4 h5 h6 v4=>⟨_,rfl,?_⟩
  simp only[List.set_cons_succ,List.set_cons_zero]
  have E4:=E3.then hok v4
  have eq4:S4[q]? =some (.lst (ks.map .int)):=by rw[E4.oth q hq (by omega),List.getElem?_append_left (by omega)];exact eq1
  refine aS ?_
  have kc:W3 (xW (bP (b2 jC (ai 7) (eC (.int 1)))) (cn 8 (xT (e2 jG (e2 jG (aP cP (au (ai 1) aL)) (eC (.int 1))) (e2 jo (ai 8) (aP vf (au (aP cP (au (ai 1) aL)) (au (eC (.int 4)) aL))))))) qz
   [some (.loc k),some (.loc q),some (.d (.int ms)),some (.d (.str (kS kd))),some (.d (.int (ar kd))),some (.loc S1.length),some v,some (.d (.int r3)),some (.d (.int r4))] S4)
   fun o S5=>S5=S4∧∃w:Nat,w < ks.length∧o= .nx [some (.loc k),some (.loc q),some (.d (.int ms)),some (.d (.str (kS kd))),some (.d (.int (ar kd))),some (.loc S1.length),some v,some (.d (.int r3)),some (.d (nI w))]:=by
   refine q8 (vz (b:=decide (r3=1)) rfl ?_)
   by_cases hr:r3=1
   ·rw[decide_eq_true hr,if_pos rfl]
    have hmn:∃mn:Int,0 < mn∧mn≤ks.length∧vf [.int ks.length, .int 4]= .ok (.int mn):=⟨if(4:Int) < ks.length then 4 else ks.length,by split <;> omega,by split <;> omega,rfl⟩
    obtain⟨mn,m1,m2,m3⟩:=hmn
    have b1:0≤r4 % mn:=Int.emod_nonneg _ (by omega)
    have b2':r4 % mn < mn:=Int.emod_lt_of_pos _ m1
    refine bz (by simp only[List.length_cons,List.length_nil,List.length_set];omega) (tG (d:=nI ((ks.length:Int) - 1 - r4 % mn).toNat) ?_ rfl ⟨rfl,((ks.length:Int) - 1 - r4 % mn).toNat,by omega,rfl⟩)
    refine aD (a:= .int ((ks.length:Int) - 1)) (b:= .int (r4 % mn)) (aD (a:= .int ks.length) (b:= .int 1) (jx eq4 rfl) rfl rfl) (aD (a:= .int r4) (b:= .int mn) rfl (aT (ds:=[.int ks.length, .int 4]) (aQ (jx eq4 rfl) rfl) m3) (wO m1)) ?_
    show R.ok (D.int ((ks.length:Int) - 1 - r4 % mn))=R.ok (D.int ((((ks.length:Int) - 1 - r4 % mn).toNat:Nat):Int))
    rw[Int.toNat_of_nonneg (by omega)]
   ·rw[decide_eq_false hr,if_neg (by decide)]
    refine oj ⟨rfl,r4.toNat,by omega,?_⟩
    unfold nI
    rw[Int.toNat_of_nonneg h5]
  refine kc.mono fun o S5 ⟨e5,w,hw,eo⟩=>⟨_,eo,?_⟩
  subst e5
  refine gW (k:=S1.length) rfl ⟨_,E4.gl⟩ (cA (d:=nI w) rfl ⟨_,_,rfl,E4.gl,by rw[List.length_map];omega,_,rfl,⟨_,_,_,rfl⟩,ws++[w],by simp [hwl],?_,?_⟩)
  ·intro x hx
   rcases List.mem_append.mp hx with z | z
   ·exact hws x z
   ·rw[List.mem_singleton] at z;subst z;exact hw
  ·rw[List.map_append]
   exact E4.put hok
 rw[List.length_map,cH,List.length_map,List.length_range] at hwl
 subst hδ
 unfold IL
 refine ef <| sN <| ay <| cA (d:= .str (kS kd)) rfl <| ay <| tG (d:= .tup (ws.map nI)) (xu rfl E2.gl) (m6 ws) <| ay <| zV <| draw (k:=k) rfl E2.p rfl (by omega) (by omega) fun r6 S6 h7 h8 v6=>cA (d:= .int ms) rfl ⟨_,_, .bl (decide (r6 < ms)),rfl,rfl,rfl,bS ⟨by simp;omega,_,rfl,?_⟩⟩
 have E6:=E2.then hok v6
 show Flat S6∧d9 S.length (.d (gZ (kd,ws,decide (r6 < ms))))=true∧∃d',res S6 (.d (gZ (kd,ws,decide (r6 < ms))))=some d'∧_
 have hl6:S6.length=S.length+1:=by rw[E6.len];simp [hl1]
 refine⟨E6.p.1,by unfold d9;rfl,_,by unfold res;rfl,h _ _ ⟨hkd,hwl,hws⟩ ⟨⟨E6.p.1.take _,?_⟩,by rw[List.length_take];omega,fun j hj=>?_⟩⟩
 ·obtain⟨_,a,c,e⟩:=E6.p
  exact⟨a,c,by rw[List.getElem?_take_of_lt hk];exact e⟩
 ·by_cases hjl:j < S.length
  ·rw[List.getElem?_take_of_lt hjl,E6.oth _ hj (by omega),List.getElem?_append_left (by omega)]
   exact v1.oth j hj
  ·rw[List.getElem?_eq_none (by rw[List.length_take];omega),List.getElem?_eq_none (by omega)]
end K19
end
section
set_option maxRecDepth 100000
set_option maxHeartbeats 4000000
namespace K19
open PySem PySem.Spec PyProof.Rows L2 L3 MT
noncomputable def bE(k q o:Nat)(g:D)(a4 a5:Option V3):DE:=[some (.loc k),some (.d g),some (.loc q),some (.loc o),a4,a5]
theorem xv{S:aN}{k q:Nat}{ks:List Int}{g:Gt}(p:pE k S)(hq:q≠k)(e:S[q]? =some (.lst (ks.map .int)))(hg:mN ks.length g)(hn:ks.length < 10000){Q:V3→aN→Prop}(h:∀g' S1,mN ks.length g'→g'.1=g.1→g'.2.1.map (ks.getD · 0)=g.2.1.map (ks.getD · 0)→Ev k S S1→Q (.d (gZ g')) S1) :
 W3 (gf [.loc k, .d (gZ g), .loc q] S) Q:=by
 have hz:sizeLine=16777216:=sizeLine_eq
 have hk:=p.lt
 have har:=BP g.1
 have hql:q < S.length:=(List.getElem?_eq_some_iff.mp e).1
 unfold gf
 refine qg (qX rfl ?_)
 simp only[bG,gT,List.map_cons,List.map_nil,List.length_cons,List.length_nil,List.replicate,List.cons_append,List.nil_append,Nat.reduceAdd,Nat.reduceSub]
 unfold kN
 refine aS <| bz (by simp only[List.length_cons,List.length_nil,List.length_set];omega) <| iC (ds:=[]) rfl ⟨_,rfl,?_⟩
 simp only[List.set_cons_succ,List.set_cons_zero]
 have E1:=uc.sV p []
 have hok:S.length≠k:=by omega
 refine aS <| f7 <| lO (ds:=g.2.1.map nI) rfl ?_
 refine(cv (fun i δ S2=>(∃a b,δ=bE k q S.length (gZ g) a b)∧∃ws:List Nat,ws.length=i∧(∀w∈ws,w < ks.length)∧ws.map (ks.getD · 0)=(g.2.1.take i).map (ks.getD · 0)∧uc k S.length (ws.map nI) (S++[SO.lst []]) S2)
  ⟨⟨_,_,rfl⟩,[],rfl,by simp,by simp,E1⟩ ?_).mono fun o S2 ⟨δ2,e3,⟨a,b,hδ⟩,ws,hwl,hws,hwk,E2⟩=>⟨δ2,e3,?_⟩
 ·rintro i v δ S2 hv ⟨⟨a,b,rfl⟩,ws,hwl,hws,hwk,E2⟩
  have hi:i < 3:=by
   have:=(List.getElem?_eq_some_iff.mp hv).1
   rw[List.length_map,List.length_map,hg.2.1] at this
   omega
  obtain⟨w,hwi,rfl⟩:=NT.i4 hv
  have hwn:=hg.2.2 w (List.mem_of_getElem? hwi)
  have eq2:S2[q]? =some (.lst (ks.map .int)):=by rw[E2.oth q hq (by omega),List.getElem?_append_left hql];exact e
  refine⟨bE k q S.length (gZ g) (some (.d (nI w))) b,rfl,?_⟩
  unfold l4 bE
  refine aS <| bz (by simp only[List.length_cons,List.length_nil,List.length_set];omega) <| xZ (q:=q) eq2 hwn hn rfl (mR (tG (d:= .int ks.length) (jx eq2 rfl) rfl ⟨ks.length,rfl,by omega,rfl,rfl⟩)) fun l hl0 hl1 hl2=>⟨_,rfl,?_⟩
  simp only[List.set_cons_succ,List.set_cons_zero]
  refine gW (k:=S.length) rfl ⟨_,E2.gl⟩ (xV (k:=k) (l:=l) (cA rfl ⟨rfl,rfl⟩) rfl E2.p (aT (ds:=[.lst (l.map nI)]) rfl (by rw[kL,List.length_map])) hl0 hl1 fun x S3 hx v3=>?_)
  have E3:=E2.then hok v3
  refine⟨nI x,_,rfl,E3.gl,by rw[List.length_map];omega,_,rfl,⟨_,_,rfl⟩,ws++[x],by simp [hwl],?_,?_,?_⟩
  ·intro y hy
   rcases List.mem_append.mp hy with z | z
   ·exact hws y z
   ·rw[List.mem_singleton] at z;subst z;exact(hl2 _ hx).1
  ·rw[List.take_add_one,hwi,List.map_append,List.map_append,hwk]
   show _++[ks.getD x 0]=_++[ks.getD w 0]
   rw[(hl2 _ hx).2]
  ·rw[List.map_append]
   exact E3.put hok
 rw[List.length_map,List.length_map] at hwl hwk
 rw[List.take_length] at hwk
 subst hδ
 unfold bE
 refine ef <| sN <| ay <| cA (d:= .str (kS g.1)) rfl <| ay <| tG (d:= .tup (ws.map nI)) (xu rfl E2.gl) (m6 ws) <| ay <| zV <| draw (k:=k) rfl E2.p rfl (by omega) (by omega) fun r6 S6 h7 h8 v6=>cA (d:= .int 0) rfl ⟨_,_, .bl (decide (r6=0)),rfl,rfl,rfl,bS ⟨by simp;omega,_,rfl,?_⟩⟩
 have E6:=E2.then hok v6
 exact HH (d:=gZ (g.1,ws,decide (r6=0))) (fun S1 v=>h _ _ ⟨hg.1,by show ws.length=_;rw [hwl];exact hg.2.1,hws⟩ rfl hwk v) E6 rfl hk
structure OS (k o:Nat) (L:List D) (S S1:aN):Prop where
 p:pE k S1
 len:S.length+1≤S1.length
 oth:∀j,j < S.length→j≠k→S1[j]? =S[j]?
 gl:S1[o]? =some (.lst L)
theorem OS.then{k o:Nat}{L:List D}{S S1 S2:aN}(a:OS k o L S S1)(h:o≠k)(b:Ev k S1 S2):OS k o L S S2:=⟨b.p,by rw[b.len];exact a.len,fun j h1 h2=>(b.oth j h2).trans (a.oth j h1 h2),(b.oth o h).trans a.gl⟩
theorem OS.set{k o m:Nat}{L M:List D}{S S1:aN}(a:OS k o L S S1)(h1:m≠k)(h2:m≠o)(h3:S.length≤m):OS k o L S (S1.set m (.lst M)):=by
 obtain⟨f,x,c,e⟩:=a.p
 exact⟨⟨f.set _ (l7 _),x,c,by rw[List.getElem?_set_ne h1];exact e⟩,by rw[List.length_set];exact a.len,fun j hj hk=>by rw[List.getElem?_set_ne (by omega)];exact a.oth j hj hk,by rw[List.getElem?_set_ne h2];exact a.gl⟩
theorem OS.push{k o:Nat}{L M:List D}{S S1:aN}(a:OS k o L S S1)(ho:o < S1.length):OS k o L S (S1++[.lst M]):=
 ⟨a.p.push M,by rw[List.length_append];have:=a.len;omega,fun j hj hk=>by rw[List.getElem?_append_left (by have:=a.len;omega)];exact a.oth j hj hk,by rw[List.getElem?_append_left ho];exact a.gl⟩
theorem OS.put{k o:Nat}{L L':List D}{S S1:aN}(a:OS k o L S S1)(h1:o≠k)(h3:S.length≤o):OS k o L' S (S1.set o (.lst L')):=by
 obtain⟨f,x,c,e⟩:=a.p
 exact⟨⟨f.set _ (l7 _),x,c,by rw[List.getElem?_set_ne h1];exact e⟩,by rw[List.length_set];exact a.len,fun j hj hk=>by rw[List.getElem?_set_ne (by omega)];exact a.oth j hj hk,jk a.gl⟩
noncomputable def oE(k q o:Nat)(ss:List Str)(a5 a6 a7 a8 a9 a10:Option V3):DE:=[some (.loc k),some (.loc q),some (.d (.lst (ss.map .str))),some (.d (.int 6)),some (.loc o),a5,a6,a7,a8,a9,a10]
noncomputable def IB:List D:=[.int 1, .int 1, .int 2, .int 2, .int 3, .int 3]
theorem GI(r:Nat)(h:r < 6):∃w:Nat,1≤w∧w≤3∧cD (.lst IB) (.int r)= .ok (nI w):=by
 match r,h with
 | 0,_=>exact⟨1,by omega,by omega,rfl⟩
 | 1,_=>exact⟨1,by omega,by omega,rfl⟩
 | 2,_=>exact⟨2,by omega,by omega,rfl⟩
 | 3,_=>exact⟨2,by omega,by omega,rfl⟩
 | 4,_=>exact⟨3,by omega,by omega,rfl⟩
 | 5,_=>exact⟨3,by omega,by omega,rfl⟩
theorem anew{S S1:aN}{k q o m:Nat}{ks:List Int}{L:List D}{ss:List Str}{i wd:Nat}{way lim:Int}{at':Nat}{a6 a7:Option V3}{ws:List Nat}(hq:q≠k)(hqS:q < S.length)(ho:o≠k)(hmk:m≠k)(hmo:m≠o)(hm:S.length≤m)(h0:0 < ks.length)(hn:ks.length < 10000)
 (eS:S[q]? =some (.lst (ks.map .int))) (hwl:ws.length=wd) (hat:at' < 3) (hws:∀w∈ws,w < ks.length) (E:OS k o L S S1) (em:S1[m]? =some (.lst (ws.map nI))) :
 W3 (xW (bP (mE (b2 jC (ai 8) (eC (.int 3))) (b2 xH (ai 10) (eC (.int lim))))) (wD (bC 9) (xP (eC (nI at'))) (bO aF (aw (bC 0) (aw (xT (aP cP (au (ai 1) aL))) bH)))) qz
  (oE k q o ss (some (.d (nI i))) a6 a7 (some (.d (nI wd))) (some (.loc m)) (some (.d (.int way)))) S1)
  fun ou S2=>ou= .nx (oE k q o ss (some (.d (nI i))) a6 a7 (some (.d (nI wd))) (some (.loc m)) (some (.d (.int way))))∧OS k o L S S2∧∃ws':List Nat,ws'.length=wd∧(∀w∈ws',w < ks.length)∧(wd≠3→ws'=ws)∧S2[m]? =some (.lst (ws'.map nI)):=by
 have eq1:S1[q]? =some (.lst (ks.map .int)):=by rw[E.oth q hqS hq];exact eS
 obtain⟨c,hc,hc3⟩:∃c:Bool,mE (b2 jC (ai 8) (eC (.int 3))) (b2 xH (ai 10) (eC (.int lim))) (down (oE k q o ss (some (.d (nI i))) a6 a7 (some (.d (nI wd))) (some (.loc m)) (some (.d (.int way)))))= .ok c∧(c=true→wd=3):=by
  have e1:b2 jC (ai 8) (eC (.int 3)) (down (oE k q o ss (some (.d (nI i))) a6 a7 (some (.d (nI wd))) (some (.loc m)) (some (.d (.int way)))))= .ok (decide ((wd:Int)=3)):=rfl
  have e3:b2 xH (ai 10) (eC (.int lim)) (down (oE k q o ss (some (.d (nI i))) a6 a7 (some (.d (nI wd))) (some (.loc m)) (some (.d (.int way)))))= .ok (decide (lim < way)):=rfl
  unfold mE
  rw[e1,R.aM,e3]
  by_cases h3:(wd:Int)=3
  ·exact⟨_,by rw[decide_eq_true h3,if_pos rfl],fun _=>by omega⟩
  ·exact⟨false,by rw[decide_eq_false h3,if_neg (by decide)],fun z=>by cases z⟩
 refine q8 (vz hc ?_)
 cases c with
 | true=>
   rw[if_pos rfl]
   have hwd:=hc3 rfl
   refine BK (xX (k:=k) rfl E.p (jx eq1 rfl) (by omega) (by omega) fun r S2 h1 h2 v2=>w_var (v:= .loc m) rfl (cA (d:=nI at') rfl ⟨_,m,(at':Int),ws.map nI,at',rfl,rfl,rfl,by rw[v2.oth m hmk];exact em,?_,rfl,(E.then ho v2).set hmk hmo hm,ws.set at' r.toNat,by rw[List.length_set];exact hwl,?_,fun z=>absurd hwd z,?_⟩))
   ·unfold qa
    rw[if_pos (by omega),if_pos (by rw[List.length_map];omega)]
    simp
   ·intro w hw
    rcases List.mem_or_eq_of_mem_set hw with z | z
    ·exact hws w z
    ·subst z;omega
   ·rw[jk (x:= .lst (ws.map nI)) (by rw[v2.oth m hmk];exact em),List.map_set]
    unfold nI
    rw[Int.toNat_of_nonneg h1]
 | false=>
   rw[if_neg (by decide)]
   exact oj ⟨rfl,E,ws,hwl,hws,fun _=>rfl,em⟩
theorem AB{S S1:aN}{k q o:Nat}{ks:List Int}{ss:List Str}{i:Nat}{a6 a7 a8 a9 a10:Option V3}{os:List (Str × List Nat)}(hq:q≠k)(hk:k < S.length)(ho:o=S.length)(h0:0 < ks.length)(hn:ks.length < 10000)(hss:ss.length=8)(hi:i < 6)(hl:os.length < 100)(eS:S[q]? =some (.lst (ks.map .int)))(E:OS k o (os.map y_) S S1) :
 W3 (j8 (oE k q o ss (some (.d (nI i))) a6 a7 a8 a9 a10) S1) fun ou S2=>∃δ2,ou= .nx δ2∧(∃b5 b6 b7 b8 b9 b10,δ2=oE k q o ss b5 b6 b7 b8 b9 b10)∧∃x:Str × List Nat,((1≤x.2.length∧x.2.length≤3)∧(∀w∈x.2,w < ks.length)∧∀a b,x.2=[a,b]→ks.getD a 0=ks.getD b 0)∧OS k o ((os++[x]).map y_) S S2:=by
 have hz:sizeLine=16777216:=sizeLine_eq
 have hqS:q < S.length:=(List.getElem?_eq_some_iff.mp eS).1
 have hok:o≠k:=by omega
 have keq:∀{S2:aN} {L:List D},OS k o L S S2→S2[q]? =some (.lst (ks.map .int)):=fun E2=>by rw[E2.oth q hqS hq];exact eS
 unfold j8 oE
 refine aS <| bz (by simp only[List.length_cons,List.length_nil,List.length_set];omega) <| zV <| tG (d:= .int ((ks.length:Int) - 1)) (aD (a:= .int ks.length) (b:= .int 1) (jx (keq E) rfl) rfl rfl) rfl <| xX (k:=k) rfl E.p (jx (keq E) rfl) (by omega) (by omega) fun r S2 h1 h2 v2=>⟨_,_,nI ((ks.length:Int) - 1 - r).toNat,rfl,rfl,?_,_,rfl,?_⟩
 ·show R.ok (D.int ((ks.length:Int) - 1 - r))=R.ok (D.int ((((ks.length:Int) - 1 - r).toNat:Nat):Int))
  rw[Int.toNat_of_nonneg (by omega)]
 simp only[List.set_cons_succ,List.set_cons_zero]
 have hw:((ks.length:Int) - 1 - r).toNat < ks.length:=by omega
 generalize ((ks.length:Int) - 1 - r).toNat=w at hw
 have E2:=E.then hok v2
 refine aS <| bz (by simp only[List.length_cons,List.length_nil,List.length_set];omega) <| xZ (q:=q) (keq E2) hw hn rfl (mR (tG (d:= .int ks.length) (jx (keq E2) rfl) rfl ⟨ks.length,rfl,by omega,rfl,rfl⟩)) fun l hl0 hl1 hl2=>⟨_,rfl,?_⟩
 simp only[List.set_cons_succ,List.set_cons_zero]
 refine aS <| bz (by simp only[List.length_cons,List.length_nil,List.length_set];omega) <| yY <| cA (d:= .lst IB) rfl <| draw (k:=k) rfl E2.p rfl (by omega) (by omega) fun r3 S3 h3 h4 v3=>?_
 obtain⟨wd,hw1,hw3,ewd⟩:=GI r3.toNat (by omega)
 rw[Int.toNat_of_nonneg h3] at ewd
 refine⟨_,_,_,rfl,rfl,ewd,_,rfl,?_⟩
 simp only[List.set_cons_succ,List.set_cons_zero]
 have E3:=E2.then hok v3
 refine aS <| bz (by simp only[List.length_cons,List.length_nil,List.length_set];omega) <| Es <| cA (d:= .lst [nI w]) rfl ?_
 refine h_ (fun j ds S4=>OS k o (os.map y_) S S4∧∃ws:List Nat,ds=ws.map nI∧(∀x∈ws,x < ks.length∧ks.getD x 0=ks.getD w 0)∧ws.length=j) (lO (gq (n:=wd - 1) ?_ (by omega)) ⟨by simp [cH];omega,⟨E3,[],rfl,by simp,rfl⟩,?_,?_⟩)
 ·refine aD (a:=nI wd) (b:= .int 1) rfl rfl ?_
  show R.ok (D.int ((wd:Int) - 1))=R.ok (D.int (((wd - 1:Nat)):Int))
  rw[Int.ofNat_sub hw1];rfl
 ·rintro j v ds S4 hv ⟨E4,ws,rfl,hws,hwl⟩
  refine⟨[some v,some (.loc k),some (.d (.lst (l.map nI)))],rfl,sF ?_⟩
  rw[if_pos rfl]
  refine xV (k:=k) (l:=l) (cA rfl ⟨rfl,rfl⟩) rfl E4.p (aT (ds:=[.lst (l.map nI)]) rfl (by rw[kL,List.length_map])) hl0 hl1 fun x S5 hx v5=>⟨nI x,rfl,E4.then hok v5,ws++[x],by simp,?_,by simp [hwl]⟩
  intro y hy
  rcases List.mem_append.mp hy with z | z
  ·exact hws y z
  ·rw[List.mem_singleton] at z;subst z;exact hl2 _ hx
 ·rintro ds S4 ⟨E4,ws,rfl,hws,hwl⟩
  have hrl:((cH 0 (wd - 1)).map V3.d).length=wd - 1:=by simp [cH]
  rw[hrl] at hwl
  refine⟨[nI w],ws.map nI,rfl,rfl,by rw[List.length_map];simp;omega,_,rfl,?_⟩
  simp only[List.set_cons_succ,List.set_cons_zero]
  have hle:=E4.len
  have ho4:o < S4.length:=(List.getElem?_eq_some_iff.mp E4.gl).1
  have E5:=E4.push (M:=[nI w]++ws.map nI) ho4
  have em5:(S4++[SO.lst ([nI w]++ws.map nI)])[S4.length]? =some (.lst ((w ::ws).map nI)):=bt _ _
  have hmk:S4.length≠k:=by omega
  have hmo:S4.length≠o:=by omega
  have hmS:S.length≤S4.length:=by omega
  have hws1:∀x∈w ::ws,x < ks.length:=fun x hx=>by
   rcases List.mem_cons.mp hx with z | z
   ·subst z;exact hw
   ·exact(hws x z).1
  generalize S4++[SO.lst ([nI w]++ws.map nI)]=S5 at E5 em5
  generalize S4.length=m at em5 hmk hmo hmS
  refine aS <| bz (by simp only[List.length_cons,List.length_nil,List.length_set];omega) <| draw (k:=k) rfl E5.p rfl (by omega) (by omega) fun way S6 h5 h6 v6=>⟨_,rfl,?_⟩
  simp only[List.set_cons_succ,List.set_cons_zero]
  have E6:=E5.then hok v6
  have em6:S6[m]? =some (.lst ((w ::ws).map nI)):=by rw[v6.oth m hmk];exact em5
  refine aS ((anew (ss:=ss) (i:=i) (wd:=wd) (way:=way) (lim:=0) (at':=2) hq hqS hok hmk hmo hmS h0 hn eS (by simp;omega) (by omega) hws1 E6 em6).mono fun ou S7 ⟨e7,E7,ws7,hl7,hw7,hs7,em7⟩=>⟨_,e7,?_⟩)
  refine aS ((anew (ss:=ss) (i:=i) (wd:=wd) (way:=way) (lim:=1) (at':=1) hq hqS hok hmk hmo hmS h0 hn eS hl7 (by omega) hw7 E7 em7).mono fun ou S8 ⟨e8,E8,ws8,hl8,hw8,hs8,em8⟩=>⟨_,e8,?_⟩)
  unfold oE
  refine gW (k:=o) rfl ⟨_,E8.gl⟩ (tG (d:=y_ (ss[i]'(by omega),ws8)) ?_ ?_ ⟨_,_,rfl,E8.gl,by rw[List.length_map];omega,_,rfl,⟨_,_,_,_,_,_,rfl⟩,(ss[i]'(by omega),ws8),⟨⟨by show 1≤ws8.length;omega,by show ws8.length≤3;omega⟩,hw8,?_⟩,?_⟩)
  ·refine eh (aQ (aD (a:= .lst (ss.map .str)) (b:=nI i) rfl rfl (jB (tf (by rw[List.getElem?_map,List.getElem?_eq_getElem (by omega)];rfl)))) (aQ (xu rfl em8) rfl)) (by simp;omega)
  ·unfold y_ kx jl
   rw[show kx (.str _)=true from by unfold kx;rfl]
   unfold jl
   rw[m6]
   unfold jl
   rfl
  ·intro a b hab
   have hab:ws8=[a,b]:=hab
   have h2:wd=2:=by rw[←hl8,hab];rfl
   rw[hs8 (by omega),hs7 (by omega)] at hab
   cases hab
   exact((hws b (by simp)).2).symm
  ·rw[List.map_append]
   exact E8.put hok (by omega)
theorem zu{S:aN}{k q:Nat}{ks:List Int}{ss:List Str}(p:pE k S)(hq:q≠k)(e:S[q]? =some (.lst (ks.map .int)))(h0:0 < ks.length)(hn:ks.length < 10000)(hss:ss.length=8){Q:V3→aN→Prop}
 (h:∀(os:List (Str × List Nat)) S1,1≤os.length→os.length < 100→(∀x∈os,(1≤x.2.length∧x.2.length≤3)∧(∀w∈x.2,w < ks.length)∧∀a b,x.2=[a,b]→ks.getD a 0=ks.getD b 0)→Ev k S S1→Q (.d (.lst (os.map y_))) S1):W3 (gY [.loc k, .loc q, .d (.lst (ss.map .str)), .d (.int 6)] S) Q:=by
 have hz:sizeLine=16777216:=sizeLine_eq
 have hk:=p.lt
 unfold gY
 refine qg (qX rfl ?_)
 simp only[bG,gH,List.map_cons,List.map_nil,List.length_cons,List.length_nil,List.replicate,List.cons_append,List.nil_append,Nat.reduceAdd,Nat.reduceSub]
 unfold l_
 refine aS <| bz (by simp only[List.length_cons,List.length_nil,List.length_set];omega) <| iC (ds:=[]) rfl ⟨_,rfl,?_⟩
 simp only[List.set_cons_succ,List.set_cons_zero]
 have E1:OS k S.length (([]:List (Str × List Nat)).map y_) S (S++[.lst []]):=⟨p.push [],by simp,fun j hj _=>List.getElem?_append_left hj,bt _ _⟩
 refine aS <| f7 <| mR <| zV <| cA (d:= .int 1) rfl <| draw (k:=k) rfl E1.p rfl (by omega) (by omega) fun r S2 h1 h2 v2=>⟨_,_, .int ((1+r).toNat:Nat),rfl,rfl,by rw[Int.toNat_of_nonneg (by omega)];rfl,(1+r).toNat,rfl,by omega,?_⟩
 have E2:=E1.then (by omega) v2
 refine(cv (fun i δ S3=>(∃b5 b6 b7 b8 b9 b10,δ=oE k q S.length ss b5 b6 b7 b8 b9 b10)∧∃os:List (Str × List Nat),os.length=i∧(∀x∈os,(1≤x.2.length∧x.2.length≤3)∧(∀w∈x.2,w < ks.length)∧∀a b,x.2=[a,b]→ks.getD a 0=ks.getD b 0)∧OS k S.length (os.map y_) S S3)
  ⟨⟨_,_,_,_,_,_,rfl⟩,[],rfl,by simp,E2⟩ ?_).mono fun o S3 ⟨δ3,e3,⟨b5,b6,b7,b8,b9,b10,hδ⟩,os,hol,hos,E3⟩=>⟨δ3,e3,?_⟩
 ·rintro i v δ S3 hv ⟨⟨b5,b6,b7,b8,b9,b10,rfl⟩,os,hol,hos,E3⟩
  rw[List.getElem?_map] at hv
  cases qq:(cH 0 (1+r).toNat)[i]? with
  | none=>rw [qq] at hv;cases hv
  | some d0=>
    rw[qq] at hv
    obtain⟨hi,rfl⟩:=n4 qq
    cases hv
    refine⟨oE k q S.length ss (some (.d (nI i))) b6 b7 b8 b9 b10,rfl,?_⟩
    refine(AB hq hk rfl h0 hn hss (by omega) (by omega) e E3).mono fun ou S4 ⟨δ4,e4,h4,x,hx,E4⟩=>⟨δ4,e4,h4,os++[x],by simp [hol],?_,E4⟩
    intro y hy
    rcases List.mem_append.mp hy with z | z
    ·exact hos y z
    ·rw[List.mem_singleton] at z;subst z;exact hx
 have hrl:((cH 0 (1+r).toNat).map V3.d).length=(1+r).toNat:=by simp [cH]
 rw[hrl] at hol
 subst hδ
 unfold oE
 refine ef (w_var rfl ⟨_,rfl,E3.p.1,by unfold d9;exact decide_eq_true (Nat.le_refl _),_,jm E3.gl,?_⟩)
 have hle:=E3.len
 refine h os _ (by omega) (by omega) hos ⟨⟨E3.p.1.take _,?_⟩,by rw[List.length_take];omega,fun j hj=>?_⟩
 ·obtain⟨_,a,c,e⟩:=E3.p
  exact⟨a,c,by rw[List.getElem?_take_of_lt hk];exact e⟩
 ·by_cases hjl:j < S.length
  ·rw[List.getElem?_take_of_lt hjl,E3.oth _ hjl hj]
  ·rw[List.getElem?_eq_none (by rw[List.length_take];omega),List.getElem?_eq_none (by omega)]
end K19
end
section
set_option maxRecDepth 100000
set_option maxHeartbeats 4000000
namespace K19
open PySem PySem.Spec PyProof.Rows L2 L3 MT
structure IS (k a b:Nat) (l:List (Str × Nat)) (ks:List Int) (S S1:aN):Prop where
 p:pE k S1
 len:S.length+2≤S1.length
 oth:∀j,j < S.length→j≠k→S1[j]? =S[j]?
 ea:S1[a]? =some (.lst (l.map MT.inD))
 eb:S1[b]? =some (.lst (ks.map .int))
 hb:S.length < b
noncomputable def iE(mi ms:Int)(k a b:Nat)(cells:D)(ss:List Str)(a7 a8:Option V3):DE:=[some (.loc k),some (.d cells),some (.d (.int mi)),some (.d (.int ms)),some (.d (.lst (ss.map .str))),some (.loc a),some (.loc b),a7,a8,none,none,none,none,none]
theorem Ah(c:Int)(n:Nat):(List.replicate n [D.int c]).flatten=(List.replicate n c).map D.int:=by
 induction n with
 | zero=>rfl
 | succ n ih=>rw [List.replicate_succ,List.flatten_cons,ih,List.replicate_succ];rfl
theorem FH{f:ax→R (List D)}{g:FD}{δ:ax}{ds:List D}{n:Nat}(h1:f δ= .ok ds)(h2:g δ= .ok (.int n))(hn:n < 1000000)(hl:ds.length*n≤sizeLine):CL f g δ= .ok (List.replicate n ds).flatten:=by
 unfold CL
 rw[h1,R.aM,h2,R.aM]
 show R.cc (decide (0≤(n:Int)∧(n:Int) < 1000000∧ds.length*(n:Int).toNat≤sizeLine)) _=_
 rw[bU _ ⟨by omega,by omega,by rw[Int.toNat_natCast];exact hl⟩,Int.toNat_natCast]
theorem Dj{mi ms:Int}{S S1:aN}{k a b i:Nat}{cells:D}{ss:List Str}{a8:Option V3}{l:List (Str × Nat)}{ks:List Int}(hk:k < S.length)(ha:a=S.length)(hss:ss.length=8)(hi:i < 6)(hl:l.length < 100)(hks:ks.length < 1000)(E:IS k a b l ks S S1) :
 W3 (ll (iE mi ms k a b cells ss (some (.d (nI i))) a8) S1) fun o S2=>∃δ2,o= .nx δ2∧∃b' a8',δ2=iE mi ms k a b' cells ss (some (.d (nI i))) a8'∧∃(s:Str) (w:Nat),1≤w∧w≤3∧IS k a b' (l++[(s,w)]) (ks++List.replicate w (i:Int)) S S2:=by
 have hz:sizeLine=16777216:=sizeLine_eq
 have hbS:=E.hb
 have hbl:b < S1.length:=(List.getElem?_eq_some_iff.mp E.eb).1
 unfold ll iE
 refine aS <| bz (by simp only[List.length_cons,List.length_nil,List.length_set];omega) <| Ep (k:=k) rfl E.p (by omega) (by omega) fun w S2 h1 h2 v2=>⟨_,rfl,?_⟩
 simp only[List.set_cons_succ,List.set_cons_zero]
 have ea2:S2[a]? =some (.lst (l.map MT.inD)):=by rw[v2.oth a (by omega)];exact E.ea
 have eb2:S2[b]? =some (.lst (ks.map .int)):=by rw[v2.oth b (by omega)];exact E.eb
 refine aS <| gW (k:=a) rfl ⟨_,ea2⟩ <| cA (d:=MT.inD (ss[7 - i]'(by omega),w)) ?_ ⟨_,_,rfl,ea2,by rw[List.length_map];omega,_,rfl,?_⟩
 ·refine eh (aQ (aD (a:= .lst (ss.map .str)) (b:=nI (7 - i)) rfl ?_ (jB (tf (by rw[List.getElem?_map,List.getElem?_eq_getElem (by omega)];rfl)))) (aQ rfl rfl)) (by simp;omega)
  refine aD (a:= .int 7) (b:=nI i) rfl rfl ?_
  show R.ok (D.int (7 - (i:Int)))=R.ok (D.int ((7 - i:Nat):Int))
  rw[Int.ofNat_sub (by omega)];rfl
 have eb3:(S2.set a (.lst (l.map MT.inD++[MT.inD (ss[7 - i]'(by omega),w)])))[b]? =some (.lst (ks.map .int)):=by rw[List.getElem?_set_ne (by omega)];exact eb2
 have ea3:(S2.set a (.lst (l.map MT.inD++[MT.inD (ss[7 - i]'(by omega),w)])))[a]? =some (.lst (l.map MT.inD++[MT.inD (ss[7 - i]'(by omega),w)])):=jk ea2
 have p3:pE k (S2.set a (.lst (l.map MT.inD++[MT.inD (ss[7 - i]'(by omega),w)]))):=by
  obtain⟨f,x,c,e⟩:=v2.p
  exact⟨f.set _ (l7 _),x,c,by rw[List.getElem?_set_ne (by omega)];exact e⟩
 have hl3:(S2.set a (.lst (l.map MT.inD++[MT.inD (ss[7 - i]'(by omega),w)]))).length=S1.length:=by rw[List.length_set,v2.len]
 have ho3:∀j,j < S.length→j≠k→(S2.set a (.lst (l.map MT.inD++[MT.inD (ss[7 - i]'(by omega),w)])))[j]? =S[j]?:=fun j hj hk=>by rw[List.getElem?_set_ne (by omega),v2.oth j hk];exact E.oth j hj hk
 generalize S2.set a (.lst (l.map MT.inD++[MT.inD (ss[7 - i]'(by omega),w)]))=S3 at eb3 ea3 p3 hl3 ho3
 refine bz (by simp only[List.length_cons,List.length_nil,List.length_set];omega) <| Es <| w_var (v:= .loc b) rfl <| cA (d:= .lst ((List.replicate w (i:Int)).map .int)) ?_ ⟨ks.map .int,(List.replicate w (i:Int)).map .int,by unfold wq c_;simp only[eb3],rfl,by rw[List.length_map,List.length_map,List.length_replicate];omega,_,rfl,S3.length,_,rfl,ss[7 - i]'(by omega),w,h1,by omega,?_⟩
 ·refine gb ?_
  rw[FH (n:=w) (ds:=[nI i]) (pJ rfl (by simp;omega)) rfl (by omega) (by simp;omega)]
  unfold nI
  rw[Ah]
 ·have hE:=E.len
  refine⟨p3.push _,by rw[List.length_append];omega,fun j hj hk=>by rw[List.getElem?_append_left (by omega)];exact ho3 j hj hk,?_,?_,by omega⟩
  ·rw[List.getElem?_append_left (by omega),List.map_append];exact ea3
  ·rw[List.map_append];exact bt _ _
structure NS (k a b c:Nat) (l:List (Str × Nat)) (ks:List Int) (gs:List Gt) (S S1:aN):Prop where
 p:pE k S1
 len:S.length+3≤S1.length
 oth:∀j,j < S.length→j≠k→S1[j]? =S[j]?
 ea:S1[a]? =some (.lst (l.map MT.inD))
 eb:S1[b]? =some (.lst (ks.map .int))
 ec:S1[c]? =some (.lst (gs.map gZ))
noncomputable def nE(mi ms:Int)(k a b c n:Nat)(cells:D)(ss:List Str)(a7 a8 a11 a12 a13:Option V3):DE:=[some (.loc k),some (.d cells),some (.d (.int mi)),some (.d (.int ms)),some (.d (.lst (ss.map .str))),some (.loc a),some (.loc b),a7,a8,some (.d (nI n)),some (.loc c),a11,a12,a13]
theorem Fq(g:Gt):kx (gZ g)=true:=by
 unfold gZ kx jl
 rw[show kx (.str _)=true from by unfold kx;rfl]
 unfold jl
 rw[m6]
 unfold jl
 rw[show kx (.bl _)=true from by unfold kx;rfl]
 unfold jl
 rfl
theorem ne_nil(gs:List Gt)(hg:∀g∈gs,mN 100000 g):Cs (.lst (gs.map gZ)) (.lst [])= .ok gs.isEmpty:=by
 have f:gy 4 (.lst (gs.map gZ)):=gy.lst fun d hd=>by
  obtain⟨g,h,rfl⟩:=List.mem_map.mp hd
  have hk:=(hg g h).1
  refine gy.tup fun x hx=>?_
  simp only[List.mem_cons,List.not_mem_nil,or_false] at hx
  rcases hx with rfl | rfl | rfl
  ·refine(gy.str ?_).mono (by omega)
   match g.1,hk with
   | 0,_=>decide+kernel
   | 1,_=>decide+kernel
   | 2,_=>decide+kernel
   | 3,_=>decide+kernel
   | 4,_=>decide+kernel
  ·refine(gy.tup (n:=0) fun y hy=>?_).mono (by omega)
   obtain⟨z,_,rfl⟩:=List.mem_map.mp hy
   exact gy.int _
  ·exact(gy.bl _).mono (by omega)
 rw[wR,f.pl,f.sh (by omega),(gy.lst (n:=0) (ds:=[]) (by simp)).pl,(gy.lst (n:=0) (ds:=[]) (by simp)).sh (by omega)]
 cases gs with
 | nil=>rfl
 | cons g gs=>rfl
theorem NS.own{k a b c m:Nat}{l:List (Str × Nat)}{ks:List Int}{gs:List Gt}{S S1 S2:aN}(E:NS k a b c l ks gs S S1)(hm:S.length≤m)(hk:k < S.length)(ha:a≠m)(hb:b≠m)(hc:c≠m)(v:Ev m S1 S2):NS k a b c l ks gs S S2:=by
 obtain⟨f,x,y,e⟩:=E.p
 exact⟨⟨v.p.1,x,y,by rw[v.oth k (by omega)];exact e⟩,by rw[v.len];exact E.len,fun j hj hjk=>by rw[v.oth j (by omega)];exact E.oth j hj hjk,by rw[v.oth a ha];exact E.ea,by rw[v.oth b hb];exact E.eb,by rw[v.oth c hc];exact E.ec⟩
theorem NS.add{k a b c:Nat}{l:List (Str × Nat)}{ks:List Int}{gs:List Gt}{g:Gt}{x:Int}{S S1:aN}(E:NS k a b c l ks gs S S1)(hk:k < S.length)(hbS:S.length≤b)(hcS:S.length≤c)(hab:a≠b)(hac:a≠c)(hbc:b≠c) :
 NS k a b c l (ks++[x]) (gs++[g]) S ((S1.set c (.lst (gs.map gZ++[gZ g]))).set b (.lst (ks.map .int++[.int x]))):=by
 obtain⟨f,u,y,e⟩:=E.p
 refine⟨⟨(f.set _ (l7 _)).set _ (l7 _),u,y,by rw[List.getElem?_set_ne (by omega),List.getElem?_set_ne (by omega)];exact e⟩,by rw[List.length_set,List.length_set];exact E.len,fun j hj hjk=>by rw[List.getElem?_set_ne (by omega),List.getElem?_set_ne (by omega)];exact E.oth j hj hjk,
  by rw[List.getElem?_set_ne (Ne.symm hab),List.getElem?_set_ne (Ne.symm hac)];exact E.ea,?_,?_⟩
 ·rw[List.map_append];exact jk (x:= .lst (ks.map .int)) (by rw[List.getElem?_set_ne (Ne.symm hbc)];exact E.eb)
 ·rw[List.getElem?_set_ne hbc,List.map_append];exact jk E.ec
theorem GJ{S:aN}{δ:DE}{i j c p:Nat}{gs:List Gt}{g:Gt}(hi:δ[i]? =some (some (.loc c)))(hj:δ[j]? =some (some (.d (nI p))))(e:S[c]? =some (.lst (gs.map gZ)))(hg:gs[p]? =some g):e2 cD (ai i) (ai j) (bY S δ)= .ok (gZ g):=by
 refine aD (a:= .lst (gs.map gZ)) (b:=nI p) ?_ ?_ (HG hg)
 ·unfold ai bY
  rw[List.getElem?_map,hi]
  show(match some (match res S (.loc c) with | some d=>Sl.val d | none=> .un) with | some (.val d)=>R.ok d | _=> .no)=_
  rw[jm e]
 ·unfold ai bY
  rw[List.getElem?_map,hj]
  rfl
theorem Bs{mi ms:Int}{S S1:aN}{k a b c n:Nat}{cells:D}{ss:List Str}{cell:Int}{a7 a8 a12 a13:Option V3}{l:List (Str × Nat)}{ks:List Int}{gs:List Gt}(hk:k < S.length)(haS:S.length≤a)(hbS:S.length≤b)(hcS:S.length≤c)(hab:a≠b)(hac:a≠c)(hbc:b≠c)
 (hn:0 < n) (hkn:ks.length=n+gs.length) (hks:ks.length < 10000) (hgs:∀(i:Nat) (g:Gt),gs[i]? =some g→mN (n+i) g) (E:NS k a b c l ks gs S S1) :
 W3 (lA (nE mi ms k a b c n cells ss a7 a8 (some (.d (.int cell))) a12 a13) S1) fun o S2=>∃δ2,o= .nx δ2∧(∃b11 b12 b13,δ2=nE mi ms k a b c n cells ss a7 a8 b11 b12 b13)∧∃(g:Gt) (x:Int),mN ks.length g∧(x=(ks.length:Int)+10∨∃pl g0,gs[pl]? =some g0∧x=ks.getD (n+pl) 0∧g.1=g0.1∧g.2.1.map (ks.getD · 0)=g0.2.1.map (ks.getD · 0))∧NS k a b c l (ks++[x]) (gs++[g]) S S2:=by
 have hz:sizeLine=16777216:=sizeLine_eq
 have hgl:gs.length < 10000:=by omega
 have la:a < S1.length:=(List.getElem?_eq_some_iff.mp E.ea).1
 have lb:b < S1.length:=(List.getElem?_eq_some_iff.mp E.eb).1
 have lc:c < S1.length:=(List.getElem?_eq_some_iff.mp E.ec).1
 have hE:=E.len
 unfold lA nE
 refine aS <| bz (by simp only[List.length_cons,List.length_nil,List.length_set];omega) <| dc <| ay <| cA (d:= .int cell) rfl <| bS <| yg cell E.p.1 fun S2 p2 l2 o2=>⟨_,rfl,?_⟩
 simp only[List.set_cons_succ,List.set_cons_zero]
 have E2:NS k a b c l ks gs S S2:=by
  obtain⟨f,u,y,e⟩:=E.p
  exact⟨⟨p2.1,u,y,by rw[o2 k (by omega)];exact e⟩,by omega,fun j hj hjk=>by rw[o2 j (by omega)];exact E.oth j hj hjk,by rw[o2 a la];exact E.ea,by rw[o2 b lb];exact E.eb,by rw[o2 c lc];exact E.ec⟩
 have hmS:S.length≤S1.length:=by omega
 have ha:a≠S1.length:=by omega
 have hb:b≠S1.length:=by omega
 have hc:c≠S1.length:=by omega
 generalize S1.length=m at p2 l2 o2 hmS ha hb hc
 have gate:∀(S3:aN),NS k a b c l ks gs S S3→pE m S3→∀(a13':Option V3),W3 (bu (il 10 (bO fX (aw (bC 12) (aw (bC 6) (aw (xP (ai 3)) bH))))) (il 6 (xT (e2 e_ (aP cP (au (ai 6) aL)) (eC (.int 10)))))
  [some (.loc k),some (.d cells),some (.d (.int mi)),some (.d (.int ms)),some (.d (.lst (ss.map .str))),some (.loc a),some (.loc b),a7,a8,some (.d (nI n)),some (.loc c),some (.d (.int cell)),some (.loc m),a13'] S3)
  fun o S4=>∃δ2,o= .nx δ2∧(∃b11 b12 b13,δ2=nE mi ms k a b c n cells ss a7 a8 b11 b12 b13)∧∃(g:Gt) (x:Int),mN ks.length g∧(x=(ks.length:Int)+10∨∃pl g0,gs[pl]? =some g0∧x=ks.getD (n+pl) 0∧g.1=g0.1∧g.2.1.map (ks.getD · 0)=g0.2.1.map (ks.getD · 0))∧NS k a b c l (ks++[x]) (gs++[g]) S S4:=fun S3 E3 p3 a13'=>by
  refine aS <| gW (k:=c) rfl ⟨_,E3.ec⟩ <| dc <| ay <| w_var (v:= .loc m) rfl <| ay <| w_var (v:= .loc b) rfl <| ay <| cA (d:= .int ms) rfl <| bS <| yX (k:=m) p3 hb E3.eb (by omega) hks fun g S4 hg v4=>?_
  have E4:=E3.own hmS hk ha hb hc v4
  refine⟨gZ g,_,rfl,E4.ec,by rw[List.length_map];omega,_,rfl,?_⟩
  have eb5:(S4.set c (.lst (gs.map gZ++[gZ g])))[b]? =some (.lst (ks.map .int)):=by rw[List.getElem?_set_ne (Ne.symm hbc)];exact E4.eb
  refine gW (k:=b) rfl ⟨_,eb5⟩ (tG (d:= .int ((ks.length:Int)+10)) (aD (a:= .int ks.length) (b:= .int 10) (jx eb5 rfl) rfl rfl) rfl ⟨_,_,rfl,eb5,by rw[List.length_map];omega,_,rfl,⟨_,_,_,rfl⟩,g,(ks.length:Int)+10,hg, .inl rfl,E4.add hk hbS hcS hab hac hbc⟩)
 have hT:∀{S3:aN},NS k a b c l ks gs S S3→bT (b2 rn (ai 10) (eNew (dA aL))) [some (.loc k),some (.d cells),some (.d (.int mi)),some (.d (.int ms)),some (.d (.lst (ss.map .str))),some (.loc a),some (.loc b),a7,a8,some (.d (nI n)),some (.loc c),some (.d (.int cell)),some (.loc m),a13] S3= .ok (!gs.isEmpty) S3:=fun {S3} E3=>by
  unfold bT
  have:b2 rn (ai 10) (eNew (dA aL)) (bY S3 [some (.loc k),some (.d cells),some (.d (.int mi)),some (.d (.int ms)),some (.d (.lst (ss.map .str))),some (.loc a),some (.loc b),a7,a8,some (.d (nI n)),some (.loc c),some (.d (.int cell)),some (.loc m),a13])= .ok (!gs.isEmpty):=by
   refine fk (a:= .lst (gs.map gZ)) (b:= .lst []) ?_ rfl ?_
   ·unfold ai bY
    show(match some (match res S3 (.loc c) with | some d=>Sl.val d | none=> .un) with | some (.val d)=>R.ok d | _=> .no)=_
    rw[jm E3.ec]
   ·unfold rn
    rw[ne_nil gs fun g hg=>?_]
    ·rfl
    ·obtain⟨i,hi⟩:=List.getElem?_of_mem hg
     obtain⟨g1,g2,g3⟩:=hgs i g hi
     have hil:=(List.getElem?_eq_some_iff.mp hi).1
     exact⟨g1,g2,fun w hw=>by have:=g3 w hw;omega⟩
  rw[this];rfl
 refine q8 ?_
 unfold ER
 refine W3.bind (W3.eq (hT E2) ?_)
 cases hgs0:gs with
 | nil=>
   subst hgs0
   exact W3.ok (gate S2 E2 p2 a13)
 | cons g0 gs0=>
   rw[←hgs0]
   have hne:gs.isEmpty=false:=by rw[hgs0];rfl
   have hpos:0 < gs.length:=by rw[hgs0];simp
   rw[hne]
   show W3 (Hw _ _ _ _ S2) _
   refine Hx <| draw (k:=m) rfl p2 rfl (by omega) (by omega) fun r S3 h1 h2 v3=>cA (d:= .int 0) rfl ⟨_,_,decide (r=0),rfl,rfl,rfl,?_⟩
   have E3:=E2.own hmS hk ha hb hc v3
   by_cases hr:r=0
   ·rw[decide_eq_true hr,if_pos rfl]
    have lenG:aP cP (au (ai 10) aL) (bY S3 [some (.loc k),some (.d cells),some (.d (.int mi)),some (.d (.int ms)),some (.d (.lst (ss.map .str))),some (.loc a),some (.loc b),a7,a8,some (.d (nI n)),some (.loc c),some (.d (.int cell)),some (.loc m),a13])= .ok (.int gs.length):=by
     refine aT (ds:=[.lst (gs.map gZ)]) (aQ ?_ rfl) (by rw[kL,List.length_map])
     unfold ai bY
     show(match some (match res S3 (.loc c) with | some d=>Sl.val d | none=> .un) with | some (.val d)=>R.ok d | _=> .no)=_
     rw[jm E3.ec]
    refine aS <| bz (by simp only[List.length_cons,List.length_nil,List.length_set];omega) <| xX (k:=m) rfl v3.p lenG (by omega) (by omega) fun r4 S4 h3 h4 v4=>⟨_,rfl,?_⟩
    simp only[List.set_cons_succ,List.set_cons_zero]
    have E4:=E3.own hmS hk ha hb hc v4
    obtain⟨pl,hpl,epl⟩:∃pl:Nat,pl < gs.length∧D.int r4=nI pl:=⟨r4.toNat,by omega,by unfold nI;rw [Int.toNat_of_nonneg h3]⟩
    rw[epl]
    have hg4:gs[pl]? =some gs[pl]:=List.getElem?_eq_getElem hpl
    obtain⟨q1,q2,q3⟩:=hgs pl _ hg4
    have hgo:mN ks.length gs[pl]:=⟨q1,q2,fun w hw=>by have:=q3 w hw;omega⟩
    refine aS <| gW (k:=c) rfl ⟨_,E4.ec⟩ <| dc <| ay <| w_var (v:= .loc m) rfl <| ay <| tG (d:=gZ gs[pl]) (GJ rfl rfl E4.ec hg4) (Fq _) <| ay <| w_var (v:= .loc b) rfl <| bS <| xv (k:=m) v4.p hb E4.eb hgo hks fun g S5 hg hg1 hgk v5=>?_
    have E5:=E4.own hmS hk ha hb hc v5
    refine⟨gZ g,_,rfl,E5.ec,by rw[List.length_map];omega,_,rfl,?_⟩
    have eb6:(S5.set c (.lst (gs.map gZ++[gZ g])))[b]? =some (.lst (ks.map .int)):=by rw[List.getElem?_set_ne (Ne.symm hbc)];exact E5.eb
    have hix:n+pl < ks.length:=by omega
    refine gW (k:=b) rfl ⟨_,eb6⟩ (tG (d:= .int ks[n+pl]) ?_ rfl ⟨_,_,rfl,eb6,by rw[List.length_map];omega,_,rfl,⟨_,_,_,rfl⟩,g,ks[n+pl],hg, .inr ⟨pl,_,hg4,by rw[List.getD_eq_getElem?_getD,List.getElem?_eq_getElem hix];rfl,hg1,hgk⟩,E5.add hk hbS hcS hab hac hbc⟩)
    refine aD (a:= .lst (ks.map .int)) (b:=nI (n+pl)) ?_ (aD (a:=nI n) (b:=nI pl) rfl rfl ?_) (Bi hix)
    ·unfold ai bY
     show(match some (match res (S5.set c (.lst (gs.map gZ++[gZ g]))) (.loc b) with | some d=>Sl.val d | none=> .un) with | some (.val d)=>R.ok d | _=> .no)=_
     rw[jm eb6]
    ·show R.ok (D.int ((n:Int)+(pl:Int)))=R.ok (D.int ((n+pl:Nat):Int))
     rw[Int.natCast_add]
   ·rw[decide_eq_false hr,if_neg (by decide)]
    exact gate S3 E3 v3.p a13
end K19
end
section
set_option maxRecDepth 100000
set_option maxHeartbeats 4000000
namespace K19
open PySem PySem.Spec PyProof.Rows L2 L3 MT
noncomputable def pv(l:List (Str × Nat))(gs:List Gt)(ms:List M)(p n:Nat):Bool:=iI (lJ gs [] (c9 l ms [] l.length) gs.length) n p
theorem pH{gs:List Gt}{t:List Int}{w0:List M}{n:Nat}:∀{j i:Nat},i≤j→j≤gs.length→n < w0.length+i→iI (lJ gs t w0 j) n=iI (lJ gs t w0 i) n
 | 0,i,h,_,_=>by rw[show i=0 by omega]
 | j+1,i,h,hj,hn=>by
   by_cases q:i=j+1
   ·rw[q]
   ·rw[←pH (j:=j) (i:=i) (by omega) (by omega) hn]
    conv=>lhs;unfold lJ
    rw[List.getElem?_eq_getElem (by omega:j < gs.length)]
    show iI (lJ gs t w0 j++[_]) n=_
    rw[pN (by rw[nG j (by omega)];omega)]
theorem yI{gs hs:List Gt}{t:List Int}{w0:List M}:∀i,i≤gs.length→lJ (gs++hs) t w0 i=lJ gs t w0 i
 | 0,_=>rfl
 | i+1,hi=>by
   unfold lJ
   rw[List.getElem?_append_left (by omega),List.getElem?_eq_getElem (by omega:i < gs.length),yI i (by omega)]
theorem vG{l:List (Str × Nat)}{x:Str × Nat}{ms:List M}{bad:List Int}:∀i,i≤l.length→c9 (l++[x]) ms bad i=c9 l ms bad i
 | 0,_=>rfl
 | i+1,hi=>by
   unfold c9
   rw[List.getElem?_append_left (by omega),vG i (by omega)]
theorem rQ{l:List (Str × Nat)}{ms:List M}{bad:List Int}(hb:l.length≤ms.length):∀i,i≤l.length→(c9 l ms bad i).length=i5 (l.take i)
 | 0,_=>rfl
 | i+1,hi=>by
   have h1:l[i]? =some l[i]:=List.getElem?_eq_getElem (by omega)
   have h2:ms[i]? =some ms[i]:=List.getElem?_eq_getElem (by omega)
   unfold c9
   rw[h1,h2]
   show(gh bad ms[i] l[i].2 (c9 l ms bad i)).length=_
   rw[gC,rQ hb i (by omega),List.take_add_one,h1]
   unfold i5
   simp only[Option.toList_some,List.map_append,List.sum_append,List.map_cons,List.map_nil,List.sum_cons,List.sum_nil]
   omega
theorem rT(b:M):∀m ws n,n < ws.length→iI (gh [] b m ws) n=iI ws n
 | 0,ws,n,h=>rfl
 | m+1,ws,n,h=>by unfold gh;rw [pN (by rw[gC];omega)];exact rT b m ws n h
theorem sg(b:M):∀m ws n,ws.length≤n→n < ws.length+m→iI (gh [] b m ws) n=b
 | 0,ws,n,h,h2=>by omega
 | m+1,ws,n,h,h2=>by
   have hl:=gC [] b m ws
   unfold gh
   by_cases q:n < ws.length+m
   ·rw[pN (by omega)];exact sg b m ws n h q
   ·rw[show n=(gh [] b m ws).length by omega,qE]
    funext p
    simp
structure Dw (l:List (Str × Nat)) (ks:List Int):Prop where
 len:ks.length=i5 l
 v:∀n,n < ks.length→∃j:Nat,j < l.length∧ks.getD n 0=(j:Int)∧∀ms:List M,l.length≤ms.length→iI (c9 l ms [] l.length) n=ms.getD j fun _=>false
theorem Dw.nil:Dw [] []:=⟨rfl,fun n h=>by simp at h⟩
theorem jK{ks:List Int}{xs:List Int}{n:Nat}(h:n < ks.length):(ks++xs).getD n 0=ks.getD n 0:=by rw[List.getD_eq_getElem?_getD,List.getElem?_append_left h,List.getD_eq_getElem?_getD]
theorem Dw.add{l:List (Str × Nat)}{ks:List Int}(h:Dw l ks)(s:Str)(w:Nat):Dw (l++[(s,w)]) (ks++List.replicate w (l.length:Int)):=by
 have hw:i5 (l++[(s,w)])=i5 l+w:=by simp [i5]
 refine⟨by rw[List.length_append,List.length_replicate,h.len,hw],fun n hn=>?_⟩
 rw[List.length_append,List.length_replicate] at hn
 have step:∀ms:List M,(l++[(s,w)]).length≤ms.length→c9 (l++[(s,w)]) ms [] (l++[(s,w)]).length=gh [] (ms.getD l.length fun _=>false) w (c9 l ms [] l.length)∧(c9 l ms [] l.length).length=ks.length:=fun ms hms=>by
  rw[List.length_append] at hms ⊢
  have hms:l.length < ms.length:=hms
  refine⟨?_,by rw[rQ (by omega) _ (Nat.le_refl _),List.take_length,h.len]⟩
  show c9 (l++[(s,w)]) ms [] (l.length+1)=_
  conv=>lhs;unfold c9
  rw[List.getElem?_append_right (Nat.le_refl _),Nat.sub_self,List.getElem?_eq_getElem hms,vG _ (Nat.le_refl _),List.getD_eq_getElem?_getD,List.getElem?_eq_getElem hms]
  rfl
 by_cases q:n < ks.length
 ·obtain⟨j,hj,hk,hv⟩:=h.v n q
  refine⟨j,by rw[List.length_append];omega,by rw[jK q];exact hk,fun ms hms=>?_⟩
  obtain⟨e1,e2⟩:=step ms hms
  rw[e1,rT _ _ _ _ (by omega)]
  exact hv ms (by rw[List.length_append] at hms;omega)
 ·refine⟨l.length,by rw[List.length_append];simp,?_,fun ms hms=>?_⟩
  ·rw[List.getD_eq_getElem?_getD,List.getElem?_append_right (by omega),List.getElem?_replicate,if_pos (by omega)];rfl
  ·obtain⟨e1,e2⟩:=step ms hms
   rw[e1,sg _ _ _ _ (by omega) (by omega)]
structure KI (l:List (Str × Nat)) (gs:List Gt) (ks:List Int):Prop where
 len:ks.length=i5 l+gs.length
 b:∀n,n < ks.length→ks.getD n 0 < (ks.length:Int)+10
 v:∀ms:List M,ms.length=l.length→∀p n n',n < ks.length→n' < ks.length→ks.getD n 0=ks.getD n' 0→pv l gs ms p n=pv l gs ms p n'
theorem Dw.ki{l:List (Str × Nat)}{ks:List Int}(h:Dw l ks)(hl:l.length≤9):KI l [] ks:=by
 refine⟨by rw[h.len];rfl,fun n hn=>?_,fun ms hms p n n' hn hn' e=>?_⟩
 ·obtain⟨j,hj,hk,_⟩:=h.v n hn
  rw[hk];omega
 ·obtain⟨j,hj,hk,hv⟩:=h.v n hn
  obtain⟨j',hj',hk',hv'⟩:=h.v n' hn'
  have:j=j':=by rw[hk,hk'] at e;omega
  subst this
  show iI (c9 l ms [] l.length) n p=iI (c9 l ms [] l.length) n' p
  rw[hv ms (by omega),hv' ms (by omega)]
section
variable {l:List (Str × Nat)} {gs:List Gt} {g:Gt} {ms:List M} {p n:Nat} {ks:List Int}
theorem Bc(hms:ms.length=l.length):(c9 l ms [] l.length).length=i5 l:=by rw[ng hms _ (Nat.le_refl _),List.take_length]
theorem B_(hms:ms.length=l.length)(hn:n < i5 l+gs.length):pv l (gs++[g]) ms p n=pv l gs ms p n:=by
 have h0:=Bc hms
 unfold pv
 rw[pH (gs:=gs++[g]) (i:=gs.length) (by rw[List.length_append];omega) (Nat.le_refl _) (by omega),yI _ (Nat.le_refl _)]
theorem Eo{i:Nat}(hms:ms.length=l.length)(h:gs[i]? =some g)(hg:mN (i5 l+i) g):pv l gs ms p (i5 l+i)=gv g.1 (g.2.1.map (pv l gs ms p)):=by
 have h0:=Bc hms
 have hi:=(List.getElem?_eq_some_iff.mp h).1
 unfold pv
 rw[pH (i:=i+1) (by omega) (Nat.le_refl _) (by omega)]
 conv=>lhs;unfold lJ
 rw[h]
 show iI (lJ gs [] (c9 l ms [] l.length) i++[fun p=>gF g (lJ gs [] (c9 l ms [] l.length) i) p !=false]) (i5 l+i) p=_
 have hl:=nG (gs:=gs) (turned:=[]) (w0:=c9 l ms [] l.length) i (by omega)
 rw[show i5 l+i=(lJ gs [] (c9 l ms [] l.length) i).length by omega,qE]
 show(gv g.1 (g.2.1.map fun n=>iI (lJ gs [] (c9 l ms [] l.length) i) n p) !=false)=_
 have:g.2.1.map (fun n=>iI (lJ gs [] (c9 l ms [] l.length) i) n p)=g.2.1.map fun n=>iI (lJ gs [] (c9 l ms [] l.length) gs.length) n p:=List.map_congr_left fun z hz=>by
  rw[pH (j:=gs.length) (i:=i) (by omega) (Nat.le_refl _) (by have:=hg.2.2 z hz;omega)]
 rw[this]
 simp
theorem AE{f:Nat→Bool}{ks:List Int}{N:Nat}(hf:∀a b,a < N→b < N→ks.getD a 0=ks.getD b 0→f a=f b):∀{u v:List Nat},(∀x∈u,x < N)→(∀x∈v,x < N)→u.map (ks.getD · 0)=v.map (ks.getD · 0)→u.map f=v.map f
 | [],[],_,_,_=>rfl
 | [],_ ::_,_,_,h=>by simp at h
 | _ ::_,[],_,_,h=>by simp at h
 | a ::u,b ::v,h1,h2,h=>by
   rw[List.map_cons,List.map_cons] at h
   obtain⟨e1,e2⟩:=List.cons.inj h
   rw[List.map_cons,List.map_cons,hf a b (h1 a List.mem_cons_self) (h2 b List.mem_cons_self) e1,AE hf (fun x hx=>h1 x (List.mem_cons_of_mem _ hx)) (fun x hx=>h2 x (List.mem_cons_of_mem _ hx)) e2]
theorem KI.add{x:Int}(h:KI l gs ks)(hgs:∀(i:Nat) (g:Gt),gs[i]? =some g→mN (i5 l+i) g)(hg:mN ks.length g)
 (hx:x=(ks.length:Int)+10∨∃pl g0,gs[pl]? =some g0∧x=ks.getD (i5 l+pl) 0∧g.1=g0.1∧g.2.1.map (ks.getD · 0)=g0.2.1.map (ks.getD · 0)):KI l (gs++[g]) (ks++[x]):=by
 have hl:=h.len
 have hlast:(ks++[x]).getD ks.length 0=x:=by rw[List.getD_eq_getElem?_getD,List.getElem?_append_right (Nat.le_refl _),Nat.sub_self];rfl
 have hll:(ks++[x]).length=ks.length+1:=by simp
 refine⟨by rw[hll,hl,List.length_append];rfl,fun n hn=>?_,?_⟩
 ·rw[hll] at hn ⊢
  by_cases q:n < ks.length
  ·rw[jK q];have:=h.b n q;omega
  ·rw[show n=ks.length by omega,hlast]
   rcases hx with rfl | ⟨pl,g0,h0,rfl,_⟩
   ·omega
   ·have:=h.b (i5 l+pl) (by have:=(List.getElem?_eq_some_iff.mp h0).1;omega);omega
 ·intro ms hms p
  have new:∀pl g0,gs[pl]? =some g0→x=ks.getD (i5 l+pl) 0→g.1=g0.1→g.2.1.map (ks.getD · 0)=g0.2.1.map (ks.getD · 0)→pv l (gs++[g]) ms p ks.length=pv l gs ms p (i5 l+pl):=fun pl g0 h0 _ e1 e2=>by
   have hpl:=(List.getElem?_eq_some_iff.mp h0).1
   have hgat:(gs++[g])[gs.length]? =some g:=by rw[List.getElem?_append_right (Nat.le_refl _),Nat.sub_self];rfl
   rw[hl,Eo hms hgat (by rw[←hl];exact hg),Eo hms h0 (hgs pl g0 h0),e1]
   have e3:g.2.1.map (pv l (gs++[g]) ms p)=g.2.1.map (pv l gs ms p):=List.map_congr_left fun z hz=>B_ hms (by have:=hg.2.2 z hz;omega)
   rw[e3]
   congr 1
   exact AE (N:=ks.length) (fun a b ha hb e=>h.v ms hms p a b ha hb e) hg.2.2 (fun z hz=>by have:=(hgs pl g0 h0).2.2 z hz;omega) e2
  have old:∀n,n < ks.length→pv l (gs++[g]) ms p n=pv l gs ms p n:=fun n hn=>B_ hms (by omega)
  have mix:∀n,n < ks.length→ks.getD n 0=x→pv l (gs++[g]) ms p n=pv l (gs++[g]) ms p ks.length:=fun n hn e=>by
   rcases hx with rfl | ⟨pl,g0,h0,hx,e1,e2⟩
   ·have:=h.b n hn;omega
   ·rw[new pl g0 h0 hx e1 e2,old n hn]
    exact h.v ms hms p n _ hn (by have:=(List.getElem?_eq_some_iff.mp h0).1;omega) (e.trans hx)
  intro n n' hn hn' e
  rw[hll] at hn hn'
  by_cases q:n < ks.length
  ·rw[jK q] at e
   by_cases q':n' < ks.length
   ·rw[jK q'] at e
    rw[old n q,old n' q']
    exact h.v ms hms p n n' q q' e
   ·have en':n'=ks.length:=by omega
    subst en'
    rw[hlast] at e
    exact mix n q e
  ·have en:n=ks.length:=by omega
   subst en
   by_cases q':n' < ks.length
   ·rw[jK q',hlast] at e
    exact(mix n' q' e.symm).symm
   ·rw[show n'=ks.length by omega]
end
end K19
end
section
set_option maxRecDepth 100000
set_option maxHeartbeats 4000000
namespace K19
open PySem PySem.Spec PyProof.Rows L2 L3 MT
theorem Az{mi ms:Int}{S:aN}{k:Nat}{cs:List Int}(p:pE k S)(hcs:cs.length < 1000)(hmi:1≤mi∧mi≤6){Q:V3→aN→Prop}
 (h:∀(l:List (Str × Nat)) (gs:List Gt) (os:List (Str × List Nat)) S1,(∀x∈l,1≤x.2∧x.2≤3)→1≤l.length→l.length≤6→gs.length=cs.length→(∀(i:Nat) (g:Gt),gs[i]? =some g→mN (i5 l+i) g)→1≤os.length→os.length < 100→(∀x∈os,(1≤x.2.length∧x.2.length≤3)∧(∀w∈x.2,w < i5 l+gs.length)∧∀a b,x.2=[a,b]→∀ms,ms.length=l.length→∀p,pv l gs ms p a=pv l gs ms p b)→Ev k S S1→Q (.d (cb l gs os)) S1) :
 W3 (jX [.loc k, .d (.lst (cs.map .int)), .d (.int mi), .d (.int ms)] S) Q:=by
 have hz:sizeLine=16777216:=sizeLine_eq
 have hk:=p.lt
 unfold jX
 refine qg (qX rfl ?_)
 simp only[bG,lC,List.map_cons,List.map_nil,List.length_cons,List.length_nil,List.replicate,List.cons_append,List.nil_append,Nat.reduceAdd,Nat.reduceSub]
 unfold nX
 refine aS <| bz (by simp only[List.length_cons,List.length_nil,List.length_set];omega) <| dc <| ay <| w_var (v:= .loc k) rfl <| ay <| cA (d:= .int 8) rfl <| bS <| Ai (m:=8) p (by omega) fun ss S1 hss v1=>⟨_,rfl,?_⟩
 simp only[List.set_cons_succ,List.set_cons_zero]
 have l1:=v1.len
 refine aS <| bz (by simp only[List.length_cons,List.length_nil,List.length_set];omega) <| iC (ds:=[]) rfl ⟨_,rfl,?_⟩
 simp only[List.set_cons_succ,List.set_cons_zero]
 refine aS <| bz (by simp only[List.length_cons,List.length_nil,List.length_set];omega) <| iC (ds:=[]) rfl ⟨_,rfl,?_⟩
 simp only[List.set_cons_succ,List.set_cons_zero]
 rw[l1,show(S1++[SO.lst []]).length=S.length+1 by simp [l1]]
 have E0:IS k S.length (S.length+1) [] [] S (S1++[.lst []]++[.lst []]):=by
  refine⟨(v1.p.push []).push [],by simp [l1],fun j hj hk=>by rw[List.getElem?_append_left (by simp;omega),List.getElem?_append_left (by omega)];exact v1.oth j hk,?_,?_,by omega⟩
  ·rw[List.getElem?_append_left (by simp;omega),←l1];exact bt _ _
  ·have:=bt (S1++[SO.lst []]) (SO.lst [])
   rw[show(S1++[SO.lst []]).length=S.length+1 by simp [l1]] at this
   exact this
 refine aS <| f7 <| mR <| zV <| cA (d:= .int 1) rfl <| draw (k:=k) rfl E0.p rfl (by omega) (by omega) fun r S2 h1 h2 v2=>⟨_,_, .int ((1+r).toNat:Nat),rfl,rfl,by rw[Int.toNat_of_nonneg (by omega)];rfl,(1+r).toNat,rfl,by omega,?_⟩
 have E2:IS k S.length (S.length+1) [] [] S S2:=⟨v2.p,by rw[v2.len];exact E0.len,fun j hj hk=>(v2.oth j hk).trans (E0.oth j hj hk),by rw[v2.oth _ (by omega)];exact E0.ea,by rw[v2.oth _ (by omega)];exact E0.eb,by omega⟩
 refine(cv (fun i δ S3=>∃b a7 a8,δ=iE mi ms k S.length b (.lst (cs.map .int)) ss a7 a8∧∃(l:List (Str × Nat)) (ks:List Int),l.length=i∧(∀x∈l,1≤x.2∧x.2≤3)∧ks.length=i5 l∧i5 l≤3*i∧i≤i5 l∧Dw l ks∧IS k S.length b l ks S S3)
  ⟨S.length+1,_,_,rfl,[],[],rfl,by simp,rfl,by simp [i5],by omega,Dw.nil,E2⟩ ?_).mono fun o S3 ⟨δ3,e3,b,a7,a8,hδ,l,ks,hl,hlw,hks,hw3,hw1,hKn,E3⟩=>⟨δ3,e3,?_⟩
 ·rintro i v δ S3 hv ⟨b,a7,a8,rfl,l,ks,hl,hlw,hks,hw3,hw1,hKn,E3⟩
  rw[List.getElem?_map] at hv
  cases qq:(cH 0 (1+r).toNat)[i]? with
  | none=>rw [qq] at hv;cases hv
  | some d0=>
    rw[qq] at hv
    obtain⟨hi,rfl⟩:=n4 qq
    cases hv
    refine⟨iE mi ms k S.length b (.lst (cs.map .int)) ss (some (.d (nI i))) a8,rfl,?_⟩
    refine(Dj hk rfl hss (by omega) (by omega) (by omega) E3).mono fun o S4 ⟨δ4,e4,b',a8',h4,s,w,hw1',hw3',E4⟩=>⟨δ4,e4,b',_,a8',h4,l++[(s,w)],ks++List.replicate w (i:Int),by simp [hl],?_,?_,?_,?_,by rw[←hl];exact hKn.add s w,E4⟩
    ·intro x hx
     rcases List.mem_append.mp hx with z | z
     ·exact hlw x z
     ·rw[List.mem_singleton] at z;subst z;exact⟨hw1',hw3'⟩
    ·rw[List.length_append,List.length_replicate,hks];simp [i5]
    ·have:i5 (l++[(s,w)])=i5 l+w:=by simp [i5]
     omega
    ·have:i5 (l++[(s,w)])=i5 l+w:=by simp [i5]
     omega
 have hrl:((cH 0 (1+r).toNat).map V3.d).length=(1+r).toNat:=by simp [cH]
 rw[hrl] at hl hw3 hw1
 subst hδ
 unfold iE
 refine aS <| bz (by simp only[List.length_cons,List.length_nil,List.length_set];omega) <| tG (d:=nI (i5 l)) ?_ rfl ⟨_,rfl,?_⟩
 ·refine(jx E3.eb rfl).trans ?_
  rw[hks];rfl
 simp only[List.set_cons_succ,List.set_cons_zero]
 refine aS <| bz (by simp only[List.length_cons,List.length_nil,List.length_set];omega) <| iC (ds:=[]) rfl ⟨_,rfl,?_⟩
 simp only[List.set_cons_succ,List.set_cons_zero]
 have hE3:=E3.len
 have la:S.length < S3.length:=(List.getElem?_eq_some_iff.mp E3.ea).1
 have lb:b < S3.length:=(List.getElem?_eq_some_iff.mp E3.eb).1
 have hbS:=E3.hb
 have N0:NS k S.length b S3.length l ks ([]:List Gt) S (S3++[.lst []]):=⟨E3.p.push [],by simp;omega,fun j hj hk=>by rw[List.getElem?_append_left (by omega)];exact E3.oth j hj hk,by rw[List.getElem?_append_left la];exact E3.ea,by rw[List.getElem?_append_left lb];exact E3.eb,bt _ _⟩
 refine aS <| f7 <| lO (ds:=cs.map .int) rfl ?_
 refine(cv (fun i δ S4=>(∃b11 b12 b13,δ=nE mi ms k S.length b S3.length (i5 l) (.lst (cs.map .int)) ss a7 a8 b11 b12 b13)∧∃(ks:List Int) (gs:List Gt),gs.length=i∧ks.length=i5 l+gs.length∧(∀(i:Nat) (g:Gt),gs[i]? =some g→mN (i5 l+i) g)∧KI l gs ks∧NS k S.length b S3.length l ks gs S S4)
  ⟨⟨_,_,_,rfl⟩,ks,[],rfl,by simp [hks],by simp,hKn.ki (by omega),N0⟩ ?_).mono fun o S4 ⟨δ4,e4,⟨b11,b12,b13,hδ⟩,ks,gs,hgl,hkn,hgs,hKI,N4⟩=>⟨δ4,e4,?_⟩
 ·rintro i v δ S4 hv ⟨⟨b11,b12,b13,rfl⟩,ks,gs,hgl,hkn,hgs,hKI,N4⟩
  have hi:i < 1000:=by
   have:=(List.getElem?_eq_some_iff.mp hv).1
   rw[List.length_map,List.length_map] at this
   omega
  obtain⟨d0,hd0,rfl⟩:=List.mem_map.mp (List.mem_of_getElem? hv)
  obtain⟨c,_,rfl⟩:=List.mem_map.mp hd0
  refine⟨nE mi ms k S.length b S3.length (i5 l) (.lst (cs.map .int)) ss a7 a8 (some (.d (.int c))) b12 b13,rfl,?_⟩
  refine(Bs hk (by omega) (by omega) (by omega) (by omega) (by omega) (by omega) (by omega) hkn (by omega) hgs N4).mono fun o S5 ⟨δ5,e5,h5,g,x,hg,hgx,N5⟩=>⟨δ5,e5,h5,ks++[x],gs++[g],by simp [hgl],by simp [hkn];omega,?_,hKI.add hgs hg hgx,N5⟩
  intro j g' hj
  by_cases hjl:j < gs.length
  ·rw[List.getElem?_append_left hjl] at hj;exact hgs j g' hj
  ·rw[List.getElem?_append_right (by omega)] at hj
   have h0:j - gs.length=0:=by
    have:=(List.getElem?_eq_some_iff.mp hj).1
    simp at this;omega
   rw[h0] at hj
   cases hj
   rw[show i5 l+j=ks.length by omega]
   exact hg
 rw[List.length_map,List.length_map] at hgl
 subst hδ
 unfold nE
 refine ef <| sN <| ay <| w_var (v:= .loc S.length) rfl <| ay <| w_var (v:= .loc S3.length) rfl <| ay <| dc <| ay <| w_var (v:= .loc k) rfl <| ay <| w_var (v:= .loc b) rfl <| ay <| cA (d:= .lst (ss.map .str)) rfl <| ay <| cA (d:= .int 6) rfl <| bS <| zu N4.p (by omega) N4.eb (by omega) (by omega) hss fun os S5 hol1 hol hos v5=>bS ⟨by simp;omega,_,rfl,?_⟩
 have ea5:S5[S.length]? =some (.lst (l.map MT.inD)):=by rw[v5.oth _ (by omega)];exact N4.ea
 have ec5:S5[S3.length]? =some (.lst (gs.map gZ)):=by rw[v5.oth _ (by omega)];exact N4.ec
 have hl5:=v5.len
 have hN4:=N4.len
 refine⟨v5.p.1,?_,cb l gs os,?_,?_⟩
 ·show d9 S.length (.tup [.loc S.length, .loc S3.length, .d (.lst (os.map y_))])=true
  simp [d9,nv];omega
 ·show res S5 (.tup [.loc S.length, .loc S3.length, .d (.lst (os.map y_))])=_
  simp [res,mh,ea5,ec5,cb]
 ·refine h l gs os _ hlw (by omega) (by omega) (by omega) hgs hol1 hol (fun x hx=>⟨(hos x hx).1,by have:=(hos x hx).2.1;rw [hkn] at this;exact this,fun a b hab ms hms p=>hKI.v ms hms p a b ((hos x hx).2.1 a (by rw[hab];simp)) ((hos x hx).2.1 b (by rw[hab];simp)) ((hos x hx).2.2 a b hab)⟩) ⟨⟨v5.p.1.take _,?_⟩,by rw[List.length_take];omega,fun j hj=>?_⟩
  ·obtain⟨_,x,c,e⟩:=v5.p
   exact⟨x,c,by rw[List.getElem?_take_of_lt hk];exact e⟩
  ·by_cases hjl:j < S.length
   ·rw[List.getElem?_take_of_lt hjl,v5.oth j hj,N4.oth j hjl hj]
   ·rw[List.getElem?_eq_none (by rw[List.length_take];omega),List.getElem?_eq_none (by omega)]
end K19
end
section
set_option maxRecDepth 100000
set_option maxHeartbeats 4000000
namespace K19
open PySem PySem.Spec PyProof.Rows L2 L3 MT
noncomputable abbrev f0:M:=fun _=>false
theorem BW{ws:List M}{b:M}{n:Nat}:iI (ws++[b]) n=if n < ws.length then iI ws n else if n=ws.length then b else f0:=by
 by_cases q:n < ws.length
 ·rw[if_pos q,pN q]
 ·rw[if_neg q]
  by_cases r:n=ws.length
  ·rw[if_pos r,r,qE]
  ·rw[if_neg r]
   unfold iI
   rw[List.getD_eq_getElem?_getD,List.getElem?_eq_none (by simp;omega)];rfl
section
variable {ins:List (Str × Nat)} {gs:List Gt} {ms ms':List M} {t bad:List Int} {p q:Nat}
noncomputable def vk(p q:Nat)(ws ws':List M):Prop:=ws.length=ws'.length∧∀n,iI ws n p=iI ws' n q
theorem vk.app{ws ws':List M}{b b':M}(h:vk p q ws ws')(hb:b p=b' q):vk p q (ws++[b]) (ws'++[b']):=by
 refine⟨by rw[List.length_append,List.length_append,h.1];rfl,fun n=>?_⟩
 rw[BW,BW,h.1]
 by_cases r:n < ws'.length
 ·rw[if_pos r,if_pos r];exact h.2 n
 ·rw[if_neg r,if_neg r]
  by_cases r2:n=ws'.length
  ·rw[if_pos r2,if_pos r2];exact hb
  ·rw[if_neg r2,if_neg r2]
theorem vk.row{b b':M}(hb:b p=b' q):∀m {ws ws':List M},vk p q ws ws'→vk p q (gh bad b m ws) (gh bad b' m ws')
 | 0,ws,ws',h=>h
 | m+1,ws,ws',h=>by
   have ih:=vk.row hb m h
   unfold gh
   refine ih.app ?_
   rw[hb,ih.1]
theorem vk.Ki(h1:ms.length=ins.length)(h2:ms'.length=ins.length)(h:∀j,j < ins.length→ms.getD j f0 p=ms'.getD j f0 q):∀i,i≤ins.length→vk p q (c9 ins ms bad i) (c9 ins ms' bad i)
 | 0,_=>⟨rfl,fun n=>rfl⟩
 | i+1,hi=>by
   have e1:ms[i]? =some ms[i]:=List.getElem?_eq_getElem (by omega)
   have e2:ms'[i]? =some ms'[i]:=List.getElem?_eq_getElem (by omega)
   have hh:=h i (by omega)
   rw[List.getD_eq_getElem?_getD,e1,List.getD_eq_getElem?_getD,e2] at hh
   unfold c9
   rw[List.getElem?_eq_getElem (by omega:i < ins.length),e1,e2]
   exact vk.row hh _ (vk.Ki h1 h2 h i (by omega))
theorem vk.Et{w0 w0':List M}(h:vk p q w0 w0'):∀i,i≤gs.length→vk p q (lJ gs t w0 i) (lJ gs t w0' i)
 | 0,_=>h
 | i+1,hi=>by
   have ih:=vk.Et h i (by omega)
   unfold lJ
   rw[List.getElem?_eq_getElem (by omega:i < gs.length)]
   refine ih.app ?_
   show(gF gs[i] (lJ gs t w0 i) p !=t.contains (i:Int))=(gF gs[i] (lJ gs t w0' i) q !=t.contains (i:Int))
   unfold gF
   have:(gs[i].2.1.map fun n=>iI (lJ gs t w0 i) n p)=gs[i].2.1.map fun n=>iI (lJ gs t w0' i) n q:=List.map_congr_left fun n _=>ih.2 n
   rw[this]
theorem G8(h1:ms.length=ins.length)(h2:ms'.length=ins.length)(h:∀j,j < ins.length→ms.getD j f0 p=ms'.getD j f0 q)(n:Nat):iI (qG ins gs ms t bad) n p=iI (qG ins gs ms' t bad) n q:=
 (vk.Et (vk.Ki h1 h2 h _ (Nat.le_refl _)) _ (Nat.le_refl _)).2 n
end
noncomputable def cM(b:Bool):M:=fun _=>b
theorem K9(f:M):mI 1 f=bI (f 0):=by
 unfold mI bI iY iY
 cases f 0 <;> rfl
theorem Jc(b:Bool):mI 1 (cM b)=bI b:=K9 _
theorem Gp(bits:List Bool):bits.map bI=(bits.map cM).map (mI 1):=by
 rw[List.map_map]
 exact List.map_congr_left fun b _=>(Jc b).symm
section
variable {c:Nat} {ins:List (Str × Nat)} {gs:List Gt} {os:List (Str × List Nat)} {S:aN} {T:List Int}
theorem E9{bits:List Bool}{p n:Nat}(hc:ins.length=c)(hp:(bw c)[p]? =some bits):iI (qG ins gs (bits.map cM) T []) n 0=iI (Wd c ins gs T []) n p:=by
 have hbl:=iz c bits (List.mem_of_getElem? hp)
 refine G8 (by rw[List.length_map,hbl,hc]) (by rw[pZ,hc]) (fun j hj=>?_) n
 rw[hc] at hj
 unfold q_
 rw[List.getD_eq_getElem?_getD,List.getElem?_map,List.getElem?_eq_getElem (by omega:j < bits.length),List.getD_eq_getElem?_getD,List.getElem?_map,List.getElem?_range hj]
 show bits[j]=IF c j p
 unfold IF
 rw[List.getD_eq_getElem?_getD (l:=bw c),hp]
 show _=bits.getD j false
 rw[List.getD_eq_getElem?_getD,List.getElem?_eq_getElem (by omega:j < bits.length)]
 rfl
noncomputable def tD(r:Bool × Bool):D:=if r.1 then .int 0 else if r.2 then .int 1 else .cS
theorem qx{N p:Nat}{f g:M}(hp:p < N):fW [.tup [mI N f,mI N g], .int p]= .ok (tD (f p,g p)):=by
 unfold fW sJ tD
 have b0:b2 jC (aP eL (au (e2 cD (ai 0) (eC (.int 0))) (au (ai 1) aL))) (eC (.int 1)) (cJ jO [.tup [mI N f,mI N g], .int p])= .ok (f p):=by
  refine fk (a:= .int (if decide (p < N) && f p then 1 else 0)) (b:= .int 1) (aT (ds:=[mI N f, .int (p:Nat)]) (aQ (aD (a:= .tup [mI N f,mI N g]) (b:= .int 0) rfl rfl yM) rfl) wt) rfl ?_
  rw[decide_eq_true hp]
  cases f p <;> rfl
 have b1:b2 jC (aP eL (au (e2 cD (ai 0) (eC (.int 1))) (au (ai 1) aL))) (eC (.int 1)) (cJ jO [.tup [mI N f,mI N g], .int p])= .ok (g p):=by
  refine fk (a:= .int (if decide (p < N) && g p then 1 else 0)) (b:= .int 1) (aT (ds:=[mI N g, .int (p:Nat)]) (aQ (aD (a:= .tup [mI N f,mI N g]) (b:= .int 1) rfl rfl zU) rfl) wt) rfl ?_
  rw[decide_eq_true hp]
  cases g p <;> rfl
 show nP jO _ _= .ok (if f p then _ else if g p then _ else _)
 cases q0:f p with
 | true=>rw [q0] at b0;exact c7 (NT.ia (lV b0 (cB rfl)))
 | false=>
   rw[q0] at b0
   cases q1:g p with
   | true=>rw [q1] at b1;exact c7 (bK (gA b0 rfl) (NT.ia (lV b1 (cB rfl))))
   | false=>rw [q1] at b1;exact c7 (bK (gA b0 rfl) (bK (gA b1 rfl) (cB rfl)))
theorem CP{xs:List M}(h:1≤xs.length∧xs.length≤3):mD [.tup (xs.map (mI 1))]= .ok (tD (GP (xs.map (· 0)))):=by
 unfold mD Am
 exact c7 (cB (aT (ds:=[.tup [mI 1 (r0 xs),mI 1 (r1 xs)], .int 0]) (aQ (aT (ds:=[.tup (xs.map (mI 1)),mI 1 one]) rfl (qc h)) rfl) (qx (p:=0) (by omega))))
theorem EJ{bits:List Bool}{bad:List Int}(NO:i9 ins gs os)(hb:bits.length=ins.length)(hS:jZ S){Q:V3→aN→Prop}(h:Q (.d (.lst (iQ 1 os (qG ins gs (bits.map cM) T bad)))) S) :
 W3 (n5 [.d (cb ins gs os), .d (.tup (bits.map bI)), .d (.tup (T.map .int)), .d (.tup (bad.map .int))] S) Q:=by
 have hl:(bits.map cM).length=ins.length:=by rw[List.length_map,hb]
 unfold n5
 refine jW hS (qX rfl ?_)
 simp only[bG,yc,List.map_cons,List.map_nil,List.length_cons,List.length_nil,List.replicate,List.cons_append,List.nil_append,Nat.reduceAdd,Nat.reduceSub]
 unfold AL
 refine ef <| dc <| ay <| cA (d:=cb ins gs os) rfl <| ay <| dc <| ay <| cA (d:=cb ins gs os) rfl <| ay <| cA (d:= .tup (bits.map bI)) rfl <| ay <| cA (d:=mI 1 one) rfl <| ay <| cA (d:= .tup (T.map .int)) rfl <| ay <| cA (d:= .tup (bad.map .int)) rfl <| bS <| vS (bits:=bits.map cM) (.inr (by rw[Gp])) NO hl hS <| bS ?_
 refine yF NO.ho (fun x hx=>⟨(NO.o x hx).1,fun w hw=>by rw[uw hl];exact(NO.o x hx).2 w hw⟩) hS ?_
 exact⟨_,rfl,by unfold d9;rfl,⟨[],by simp⟩,_,by unfold res;rfl,h⟩
noncomputable def RD(c:Nat)(ins:List (Str × Nat))(gs:List Gt)(os:List (Str × List Nat))(T:List Int)(p:Nat):List D:=os.map fun x=>tD (pt (Wd c ins gs T []) x p)
theorem Gh{bits:List Bool}{p:Nat}{fn fb fT fe:FD}{δ:DE}{own:List Str}{kp:List Nat}(hkp:fY own kp δ=[none])(NO:i9 ins gs os)(hc:ins.length=c)(ho:∀x∈os,1≤x.2.length∧x.2.length≤3)(hp:(bw c)[p]? =some bits)(hS:jZ S)
 (e1:fn (down δ)= .ok (cb ins gs os)) (e2':fb (down δ)= .ok (cz bits)) (e3:fT (down δ)= .ok (.tup (T.map .int))) (e4:fe (down δ)= .ok (.tup [])) {Q:V3→aN→Prop} (h:Q (.d (.lst (RD c ins gs os T p))) S) :
 W3 (gS (vd (bO n5 (aw (xP fn) (aw (xP fb) (aw (xP fT) (aw (xP fe) bH)))))) (i7 0) tU (xP (aP mD (au (ai 0) aL))) own kp δ S) Q:=by
 have hz:sizeLine=16777216:=sizeLine_eq
 have hO:=NO.ho
 have hbl:=iz c bits (List.mem_of_getElem? hp)
 refine h_ (fun j ds S2=>S2=S∧ds=(RD c ins gs os T p).take j) ?_
 refine nK <| dc <| ay <| cA (d:=cb ins gs os) e1 <| ay <| cA (d:= .tup (bits.map bI)) e2' <| ay <| cA (d:= .tup (T.map .int)) e3 <| ay <| cA (d:= .tup (([]:List Int).map .int)) e4 <| bS <| EJ NO (by rw[hbl,hc]) hS ⟨_,rfl,?_,⟨rfl,by simp⟩,?_,?_⟩
 ·rw[List.length_map,iQ,List.length_map];omega
 ·rintro j v ds S2 hv ⟨rfl,rfl⟩
  rw[iQ] at hv
  obtain⟨x,hx,rfl⟩:=NT.i4 hv
  refine⟨[some (.d (.tup ((tell (qG ins gs (bits.map cM) T []) x).map (mI 1))))],by rw[hkp];rfl,sF ?_⟩
  rw[if_pos rfl]
  refine cA (d:=tD (GP ((tell (qG ins gs (bits.map cM) T []) x).map (· 0)))) (aT (ds:=[.tup ((tell (qG ins gs (bits.map cM) T []) x).map (mI 1))]) rfl (CP ?_)) ⟨_,rfl,rfl,?_⟩
  ·unfold tell;rw [List.length_map];exact ho x (List.mem_of_getElem? hx)
  ·unfold RD
   rw[List.take_add_one,List.getElem?_map,hx]
   show _=_++[tD (pt (Wd c ins gs T []) x p)]
   congr 3
   unfold pt tell
   rw[List.map_map,List.map_map]
   congr 1
   exact List.map_congr_left fun n _=>E9 hc hp
 ·rintro ds S2 ⟨rfl,rfl⟩
  rw[List.length_map,iQ,List.length_map,List.take_of_length_le (by rw[RD,List.length_map];exact Nat.le_refl _)]
  exact h
theorem zI{k:Nat}{nt:D}{f g:M}(hc:c≤10)(hS:jZ S)(hb:S[k]? =some (.ins 0 (cQ c nt))){Q:V3→aN→Prop}(h:Q (.d (.lst ((List.range (2 ^ c)).map fun p=>tD (f p,g p)))) S) :
 W3 (d4 [.loc k, .d (.tup [mI (2 ^ c) f,mI (2 ^ c) g])] S) Q:=by
 have hz:sizeLine=16777216:=sizeLine_eq
 have hp:2 ^ c≤1024:=Nat.pow_le_pow_right (by omega) hc
 unfold d4
 refine jW hS (qX rfl ?_)
 simp only[bG,eE,List.map_cons,List.map_nil,List.length_cons,List.length_nil,List.replicate,List.cons_append,List.nil_append,Nat.reduceAdd,Nat.reduceSub]
 unfold iM
 refine ef <| h_ (fun j ds S2=>S2=S∧ds=(List.range j).map fun p=>tD (f p,g p)) ?_
 refine mR <| w_fld (k:=k) <| w_var (v:= .loc k) rfl ⟨_,_,rfl,hb,yL,2 ^ c,rfl,by omega,?_⟩
 have hlen:((cH 0 (2 ^ c)).map V3.d).length=2 ^ c:=by simp [cH]
 rw[hlen]
 refine⟨by omega,⟨rfl,rfl⟩,?_,?_⟩
 ·rintro j v ds S2 hv ⟨rfl,rfl⟩
  obtain⟨hj,rfl⟩:=NT.n4 hv
  refine⟨[some (.d (.int j)),some (.d (.tup [mI (2 ^ c) f,mI (2 ^ c) g]))],rfl,sF ?_⟩
  rw[if_pos rfl,List.range_succ,List.map_append]
  exact cA (d:=tD (f j,g j)) (aT (ds:=[.tup [mI (2 ^ c) f,mI (2 ^ c) g], .int j]) rfl (qx hj)) ⟨_,rfl,rfl,rfl⟩
 ·rintro ds S2 ⟨rfl,rfl⟩
  exact⟨_,rfl,by unfold d9;rfl,⟨[],by simp⟩,_,by unfold res;rfl,h⟩
noncomputable def my(c:Nat)(ins:List (Str × Nat))(gs:List Gt)(os:List (Str × List Nat)):D:= .lst (os.map fun x=> .lst ((List.range (2 ^ c)).map fun p=>tD (pt (Wd c ins gs [] []) x p)))
theorem xh(NO:i9 ins gs os)(hc:ins.length=c)(hc1:c≤10)(ho:∀x∈os,1≤x.2.length∧x.2.length≤3)(hS:jZ S){Q:V3→aN→Prop}(h:Q (.d (my c ins gs os)) S) :
 W3 (j_ [.d (cb ins gs os)] S) Q:=by
 have hz:sizeLine=16777216:=sizeLine_eq
 have hO:=NO.ho
 unfold j_
 refine jW hS (qX rfl ?_)
 simp only[bG,jF,List.map_cons,List.map_nil,List.length_cons,List.length_nil,List.replicate,List.cons_append,List.nil_append,Nat.reduceAdd,Nat.reduceSub]
 unfold n6
 have hc0:∀fs:List (Str × V3),g7 (S.length+1) (fs.map (·.2))=true→jZ (S++[.ins 0 fs]):=fun fs hf o ho'=>by
  rw[show(S++[SO.ins 0 fs]).length=S.length+1 by simp]
  rcases List.mem_append.mp ho' with q | q
  ·exact oa (by omega) o (hS o q)
  ·rw[List.mem_singleton.mp q];exact hf
 have hb:(S++[SO.ins 0 (cQ c (cb ins gs os))])[S.length]? =some (.ins 0 (cQ c (cb ins gs os))):=bt _ _
 have hcl:jZ (S++[SO.ins 0 (cQ c (cb ins gs os))]):=hc0 _ rfl
 refine aS <| bz (by simp only[List.length_cons,List.length_nil,List.length_set];omega) <| tO <| ay <| cA (d:=cb ins gs os) rfl <| bS <| yw hc hc1 (hc0 _ rfl) ⟨rfl,_,rfl,?_⟩
 simp only[List.set_cons_succ,List.set_cons_zero]
 refine ef <| h_ (fun j ds S2=>S2=S++[SO.ins 0 (cQ c (cb ins gs os))]∧ds=(os.map fun x=>D.lst ((List.range (2 ^ c)).map fun p=>tD (pt (Wd c ins gs [] []) x p))).take j) ?_
 refine nK <| iK (k:=S.length) <| w_var (v:= .loc S.length) rfl ⟨_,rfl,hb,uH _ _ (by decide+kernel) (by decide+kernel) (by decide+kernel) (by decide+kernel),?_⟩
 refine ay <| cA (d:= .tup (([]:List Int).map .int)) rfl <| bS <| k4 NO hc ho hcl hb ⟨_,rfl,?_,⟨rfl,by simp⟩,?_,?_⟩
 ·rw[List.length_map,zR,List.length_map];omega
 ·rintro j v ds S2 hv ⟨rfl,rfl⟩
  rw[zR] at hv
  obtain⟨x,hx,rfl⟩:=NT.i4 hv
  refine⟨[some (.d (.tup [mI (2 ^ c) (r0 (tell (Wd c ins gs [] []) x)),mI (2 ^ c) (r1 (tell (Wd c ins gs [] []) x))])),some (.loc S.length)],rfl,sF ?_⟩
  rw[if_pos rfl]
  refine iK (k:=S.length) <| w_var (v:= .loc S.length) rfl ⟨_,rfl,hb,uH _ _ (by decide+kernel) (by decide+kernel) (by decide+kernel) (by decide+kernel),?_⟩
  refine ay <| cA (d:= .tup [mI (2 ^ c) (r0 (tell (Wd c ins gs [] []) x)),mI (2 ^ c) (r1 (tell (Wd c ins gs [] []) x))]) rfl <| bS <| zI hc1 hcl hb ⟨_,rfl,rfl,?_⟩
  rw[List.take_add_one,List.getElem?_map,hx]
  rfl
 ·rintro ds S2 ⟨rfl,rfl⟩
  rw[List.length_map,zR,List.length_map,List.take_of_length_le (by rw[List.length_map];exact Nat.le_refl _)]
  exact⟨_,rfl,by unfold d9;rfl,⟨_,rfl⟩,_,by unfold res;rfl,h⟩
end
end K19
end
section
set_option maxRecDepth 100000
set_option maxHeartbeats 4000000
namespace K19
open PySem PySem.Spec PyProof.Rows L2 L3 MT
theorem vY(xs:List Bool):(GP xs).1=true→(GP xs).2=false:=by
 match xs with
 | []=>intro h;rfl
 | [a]=>cases a <;> intro h <;> first | rfl | cases h
 | [a,b]=>cases a <;> cases b <;> intro h <;> first | rfl | cases h
 | [a,b,c]=>cases a <;> cases b <;> cases c <;> intro h <;> first | rfl | cases h
 | a ::b ::c ::d ::r=>intro h;rfl
theorem G3(a b:Bool × Bool)(ha:a.1=true→a.2=false)(hb:b.1=true→b.2=false):rn (tD a) (tD b)= .ok (.bl ((a.1 !=b.1) || (a.2 !=b.2))):=by
 obtain⟨a0,a1⟩:=a
 obtain⟨b0,b1⟩:=b
 cases a0 <;> cases a1 <;> cases b0 <;> cases b1 <;> first | rfl | (exact absurd (ha rfl) (by decide)) | (exact absurd (hb rfl) (by decide))
theorem DL{safe:Bool}{a b:Bool × Bool}(ha:a.1=true→a.2=false)(hb:b.2=!b.1):(((a.1 !=b.1) || (a.2 !=b.2)) && (!safe || (a.1 || a.2)))=brk safe b a:=by
 obtain⟨a0,a1⟩:=a
 obtain⟨b0,b1⟩:=b
 have hb:b1=!b0:=hb
 subst hb
 cases a0 <;> cases a1 <;> cases b0 <;> cases safe <;> first | rfl | (exact absurd (ha rfl) (by decide))
theorem EO{ds es:List D}(h:ds.length+es.length≤sizeLine):jU (.lst ds) (.lst es)= .ok (.lst (ds++es)):=t9 h
theorem zr(l:List (List Bool)):(l.flatMap fun b=>[b++[false],b++[true]]).length=2*l.length:=by
 rw[List.length_flatMap]
 have:l.map (fun b=>[b++[false],b++[true]].length)=l.map fun _=>2:=rfl
 rw[this,List.map_const',List.sum_replicate_nat]
 omega
theorem yU{c:Nat}(hc:c≤10):eM [nI c]= .ok (.lst ((bw c).map cz)):=by
 have hz:sizeLine=16777216:=sizeLine_eq
 unfold eM nj
 refine c7 (bK (hX (d:= .lst ((bw 0).map cz)) rfl (by simp [cJ,j4])) ?_)
 obtain⟨δ1,e1,a2,a3,a4,hδ1⟩:=jH (t:=aY 2) (body:=iF) (ds:=cH 0 c)
  (fun i δ=>∃a2 a3 a4,δ=[.val (nI c), .val (.lst ((bw i).map cz)),a2,a3,a4]) (δ:=[.val (nI c), .val (.lst ((bw 0).map cz)), .un, .un, .un]) ⟨.un, .un, .un,rfl⟩ (by
    rintro i d δ hd ⟨a2,a3,a4,rfl⟩
    have hi:i < c:=by
     have:=(List.getElem?_eq_some_iff.mp hd).1
     simpa [cH] using this
    have hpow:(bw i).length≤1024:=by
     rw[cN]
     exact Nat.pow_le_pow_right (by omega) (by omega:i≤10)
    generalize hL:D.lst ((bw i).map cz)=Li
    rw[show aY 2 d [.val (nI c), .val Li,a2,a3,a4]= .ok [.val (nI c), .val Li, .val d,a3,a4] from rfl,R.aM]
    unfold iF
    obtain⟨δ2,e2',b4,hδ2⟩:=jH (t:=aY 4) (body:=iW) (ds:=(bw i).map cz)
     (fun j δ=>∃b4,δ=[.val (nI c), .val Li, .val d, .val (.lst ((((bw i).take j).flatMap fun b=>[b++[false],b++[true]]).map cz)),b4]) (δ:=[.val (nI c), .val Li, .val d, .val (.lst []),a4]) ⟨a4,by simp⟩ (by
       rintro j x δ hx ⟨b4,rfl⟩
       obtain⟨b,hb,rfl⟩:=NT.tK hx
       have hjl:=(List.getElem?_eq_some_iff.mp hb).1
       have hbl:=iz i b (List.mem_of_getElem? hb)
       have hlen:=zr ((bw i).take j)
       rw[List.length_take] at hlen
       refine⟨[.val (nI c), .val Li, .val d, .val (.lst ((((bw i).take (j+1)).flatMap fun b=>[b++[false],b++[true]]).map cz)), .val (cz b)],?_,⟨_,rfl⟩⟩
       have hst:(((bw i).take (j+1)).flatMap fun b=>[b++[false],b++[true]]).map cz=(((bw i).take j).flatMap fun b=>[b++[false],b++[true]]).map cz++[cz (b++[false]),cz (b++[true])]:=by
        rw[List.take_add_one,hb,List.flatMap_append,List.map_append]
        simp
       rw[hst]
       generalize hG:(((bw i).take j).flatMap fun b=>[b++[false],b++[true]]).map cz=G
       have hGl:G.length≤2048:=by rw[←hG,List.length_map];omega
       rw[show aY 4 (cz b) [.val (nI c), .val Li, .val d, .val (.lst G),b4]= .ok [.val (nI c), .val Li, .val d, .val (.lst G), .val (cz b)] from rfl,R.aM]
       unfold iW
       have add:∀(x:Bool),e2 jU (ai 4) (dU (au (eC (bI x)) aL)) [.val (nI c), .val Li, .val d, .val (.lst G), .val (cz b)]= .ok (cz (b++[x])):=fun x=>by
        refine aD (a:=cz b) (b:= .tup [bI x]) rfl (eh rfl (by simp;omega)) ?_
        show R.cc (decide ((b.map bI).length+[bI x].length≤sizeLine)) _=_
        rw[bU _ (by rw[List.length_map];simp;omega)]
        unfold cz
        rw[List.map_append];rfl
       exact hX (aD (a:= .lst G) (b:= .lst [cz (b++[false]),cz (b++[true])]) rfl (gb (pJ (aQ (add false) (aQ (add true) rfl)) (by simp;omega))) (EO (by simp;omega))) (by simp))
    rw[List.length_map,List.take_length] at hδ2
    subst hδ2
    refine⟨_,bK (hX (d:= .lst []) rfl (by simp)) (bK (mY (ds:=(bw i).map cz) (pT (by rw[hL];rfl)) e2') (hX (d:= .lst ((bw (i+1)).map cz)) rfl (by simp))),⟨.val d, .val (.lst ((bw (i+1)).map cz)),b4,rfl⟩⟩)
 refine bK (mY (ds:=cH 0 c) (gq (n:=c) rfl (by omega)) e1) ?_
 have hlen:(cH 0 c).length=c:=by simp [cH]
 rw[hlen] at hδ1
 subst hδ1
 exact cB rfl
section
variable {ins:List (Str × Nat)} {gs:List Gt} {os:List (Str × List Nat)} {m:Nat}
theorem zf{i:Nat}(h:i < gs.length){δ:ax}(h0:ai 0 δ= .ok (nI i))(h1:ai 1 δ= .ok (cb ins gs os)):mm (ma (e2 cD (e2 cD (e2 cD (ai 1) (eC (.int 1))) (ai 0)) (eC (.int 2)))) δ= .ok (match gs[i]? with | some g=>!g.2.2 | none=>false):=by
 have e:e2 cD (e2 cD (e2 cD (ai 1) (eC (.int 1))) (ai 0)) (eC (.int 2)) δ= .ok (.bl gs[i].2.2):=by
  refine aD (a:=gZ gs[i]) (b:= .int 2) (aD (a:= .lst (gs.map gZ)) (b:=nI i) (aD (a:=cb ins gs os) (b:= .int 1) h1 rfl rfl) h0 (NT.kj ?_)) rfl rfl
  rw[List.getElem?_map,List.getElem?_eq_getElem h]
  rfl
 unfold mm ma
 rw[e,List.getElem?_eq_getElem h]
 rfl
end
theorem B6{a b:Bool × Bool}(ha:a.1=true→a.2=false)(hb:b.2=!b.1):brk false b a=(brk true b a || !(a.1 || a.2)):=by
 obtain⟨a0,a1⟩:=a
 obtain⟨b0,b1⟩:=b
 have hb:b1=!b0:=hb
 subst hb
 cases a0 <;> cases a1 <;> cases b0 <;> first | rfl | (exact absurd (ha rfl) (by decide))
theorem t5{α:Type}{f g:α→Bool}:∀xs:List α,(xs.any fun x=>f x || g x)=(xs.any f || xs.any g)
 | []=>rfl
 | x ::xs=>by
   rw[List.any_cons,List.any_cons,List.any_cons,t5 xs]
   cases f x <;> cases g x <;> cases xs.any f <;> cases xs.any g <;> rfl
theorem mv{α:Type}{f g:α→Bool}:∀{xs:List α},(∀x∈xs,f x=g x)→xs.any f=xs.any g
 | [],_=>rfl
 | x ::xs,h=>by rw[List.any_cons,List.any_cons,h x List.mem_cons_self,mv fun y hy=>h y (List.mem_cons_of_mem _ hy)]
theorem CM(s:List Nat):Cs (.lst (s.map nI)) (.lst [])= .ok s.isEmpty:=by
 have f:gy 1 (.lst (s.map nI)):=gy.lst fun d hd=>by obtain⟨x,_,rfl⟩:=List.mem_map.mp hd;exact gy.int _
 have f2:gy 1 (.lst []):=gy.lst fun d hd=>by cases hd
 rw[wR,f.pl,f.sh (by omega),f2.pl,f2.sh (by omega)]
 cases s with
 | nil=>rfl
 | cons g gs=>rfl
theorem mT{α β γ:Type}{f:α→β}{g:β→Option γ}:∀xs:List α,(xs.map f).findSome? g=xs.findSome? fun x=>g (f x)
 | []=>rfl
 | x ::xs=>by rw[List.map_cons,List.findSome?_cons,mT xs,List.findSome?_cons]
theorem xj(ps:List Nat):(List.range ps.length).map (fun a=>ps.getD a 0)=ps:=by
 refine List.ext_getElem? fun i=>?_
 rw[List.getElem?_map]
 by_cases q:i < ps.length
 ·rw[List.getElem?_range q]
  show some (ps.getD i 0)=_
  rw[List.getD_eq_getElem?_getD,List.getElem?_eq_getElem q];rfl
 ·rw[List.getElem?_eq_none (by simp;omega),List.getElem?_eq_none (by omega)];rfl
theorem uF{α β:Type}(f:α→β):∀xs:List α,(xs.flatMap fun x=>[f x])=xs.map f
 | []=>rfl
 | x ::xs=>by rw[List.flatMap_cons,uF f xs];rfl
theorem Ea(ps:List Nat):lM ps 1=ps.map fun x=>[x]:=by
 show((List.range ps.length).flatMap fun a=>(lM (ps.drop (a+1)) 0).map (ps.getD a 0 ::·))=_
 have:(fun a=>(lM (ps.drop (a+1)) 0).map (ps.getD a 0 ::·))=fun a=>[[ps.getD a 0]]:=by funext a;rfl
 rw[this,uF]
 conv=>rhs;rw [←xj ps]
 rw[List.map_map];rfl
theorem A7(c:Nat):di ((bw c).map cz)=(List.range (2 ^ c)).map fun p=> .tup [.int p,cz ((bw c).getD p [])]:=by
 refine List.ext_getElem? fun i=>?_
 rw[List.getElem?_map,di,List.getElem?_map,List.getElem?_zipIdx,List.getElem?_map]
 have hl:=cN c
 by_cases q:i < (bw c).length
 ·rw[List.getElem?_eq_getElem q,List.getElem?_range (by omega)]
  show some (D.tup [.int ((0+i:Nat):Int),cz (bw c)[i]])=some (D.tup [.int i,cz ((bw c).getD i [])])
  rw[Nat.zero_add,List.getD_eq_getElem?_getD,List.getElem?_eq_getElem q];rfl
 ·rw[List.getElem?_eq_none (by omega),List.getElem?_eq_none (by simp;omega)];rfl
section
variable {c:Nat} {ins:List (Str × Nat)} {gs:List Gt} {os:List (Str × List Nat)} {x:Nat} {S:aN}
theorem HX(hsd:∀x∈os,∀p,(pt (Wd c ins gs [] []) x p).2=!(pt (Wd c ins gs [] []) x p).1)(p:Nat):IC c ins gs os x p=(!(mf true c ins gs os (nZ [x]) p) && os.any fun y=>!((pt (Wd c ins gs (nZ [x]) []) y p).1 || (pt (Wd c ins gs (nZ [x]) []) y p).2)):=by
 have e:mf false c ins gs os (nZ [x]) p=(mf true c ins gs os (nZ [x]) p || os.any fun y=>!((pt (Wd c ins gs (nZ [x]) []) y p).1 || (pt (Wd c ins gs (nZ [x]) []) y p).2)):=by
  unfold mf
  rw[←t5]
  exact mv fun y hy=>B6 (vY _) (hsd y hy p)
 unfold IC
 rw[e]
 cases mf true c ins gs os (nZ [x]) p <;> cases(os.any fun y=>!((pt (Wd c ins gs (nZ [x]) []) y p).1 || (pt (Wd c ins gs (nZ [x]) []) y p).2)) <;> rfl
noncomputable def kd(c:Nat)(ins:List (Str × Nat))(gs:List Gt)(os:List (Str × List Nat))(x p:Nat):Nat:=if mf true c ins gs os (nZ [x]) p then 2 else if(os.any fun y=>!((pt (Wd c ins gs (nZ [x]) []) y p).1 || (pt (Wd c ins gs (nZ [x]) []) y p).2)) then 1 else 0
noncomputable def uB(a b:Bool × Bool):List Int:=if !(a.1 || a.2) then [1] else if brk true b a then [2] else []
noncomputable def kl(c:Nat)(ins:List (Str × Nat))(gs:List Gt)(x p:Nat)(ys:List (Str × List Nat)):List Int:=ys.flatMap fun y=>uB (pt (Wd c ins gs (nZ [x]) []) y p) (pt (Wd c ins gs [] []) y p)
theorem Il(a:Bool × Bool):IT (tD a) .cS= .ok (.bl (!(a.1 || a.2))):=by
 obtain⟨a0,a1⟩:=a
 cases a0 <;> cases a1 <;> rfl
theorem wY(A B:α→Bool × Bool):∀(ys:List α) (a:Int),0≤a→(ys.flatMap fun y=>uB (A y) (B y)).foldl max a=max a (if ys.any (fun y=>brk true (B y) (A y) && ((A y).1 || (A y).2)) then 2 else if ys.any (fun y=>!((A y).1 || (A y).2)) then 1 else 0)
 | [],a,h=>by simp;omega
 | y ::ys,a,h=>by
   rw[List.flatMap_cons,List.foldl_append,List.any_cons,List.any_cons]
   have e:∀n,(uB (A y) (B y)).foldl max n=max n (if(brk true (B y) (A y) && ((A y).1 || (A y).2)) then 2 else if !((A y).1 || (A y).2) then 1 else 0)∨(uB (A y) (B y)=[]∧(brk true (B y) (A y) && ((A y).1 || (A y).2))=false∧(!((A y).1 || (A y).2))=false):=fun n=>by
    unfold uB
    cases((A y).1 || (A y).2) <;> cases brk true (B y) (A y) <;> simp
   rcases e a with q | ⟨q1,q2,q3⟩
   ·rw[q,wY A B ys _ (by omega)]
    cases(brk true (B y) (A y) && ((A y).1 || (A y).2)) <;> cases(!((A y).1 || (A y).2)) <;> cases ys.any (fun y=>brk true (B y) (A y) && ((A y).1 || (A y).2)) <;> cases ys.any (fun y=>!((A y).1 || (A y).2)) <;> simp <;> omega
   ·rw[q1,q2,q3,List.foldl_nil,wY A B ys a h]
    simp
theorem CW{a b:Bool × Bool}:(brk true b a && (a.1 || a.2))=brk true b a:=by
 obtain⟨a0,a1⟩:=a
 obtain⟨b0,b1⟩:=b
 cases a0 <;> cases a1 <;> cases b0 <;> cases b1 <;> rfl
theorem Fx{p:Nat}:(kl c ins gs x p os).foldl max 0=(kd c ins gs os x p:Nat):=by
 unfold kl kd mf
 rw[wY _ _ os 0 (by omega)]
 simp only[CW]
 split
 ·rfl
 ·split <;> rfl
theorem yb(l:List Int):ints? (l.map D.int)=some l:=L2.ints_map l
noncomputable def kE(nt:D)(x:Nat)(du:D)(f:Nat)(a4 a5 a6 a7 a8:Option V3):DE:=[some (.d nt),some (.d (nI x)),some (.d du),some (.loc f),a4,a5,a6,a7,a8]
theorem wQ{p q:Nat}{bits:D}{f:Nat}{a8:Option V3}{S2:aN}(hO:os.length < 1000)(hsd:∀x∈os,∀p,(pt (Wd c ins gs [] []) x p).2=!(pt (Wd c ins gs [] []) x p).1)(hp:p < 2 ^ c)(hq:q=S2.length) :
 W3 (kF (i7 8) gG (((List.range os.length).map nI).map V3.d) (kE (cb ins gs os) x (my c ins gs os) f (some (.d (nI p))) (some (.d bits)) (some (.d (.lst (RD c ins gs os (nZ [x]) p)))) (some (.loc q)) a8) (S2++[.lst [.int 0]]))
  fun o S3=>(∃b8,o= .nx (kE (cb ins gs os) x (my c ins gs os) f (some (.d (nI p))) (some (.d bits)) (some (.d (.lst (RD c ins gs os (nZ [x]) p)))) (some (.loc q)) b8))∧S3=S2++[.lst ((0 ::kl c ins gs x p os).map .int)]:=by
 have hz:sizeLine=16777216:=sizeLine_eq
 subst hq
 have hlst:∀L:List D,(S2++[SO.lst L])[S2.length]? =some (.lst L):=fun L=>bt _ _
 refine(cv (fun i δ S3=>(∃b8,δ=kE (cb ins gs os) x (my c ins gs os) f (some (.d (nI p))) (some (.d bits)) (some (.d (.lst (RD c ins gs os (nZ [x]) p)))) (some (.loc S2.length)) b8)∧S3=S2++[.lst ((0 ::kl c ins gs x p (os.take i)).map .int)]) ⟨⟨_,rfl⟩,by simp [kl]⟩ ?_).mono fun o S3 ⟨δ2,e2',⟨b8,hδ⟩,hS3⟩=>?_
 ·rintro i v δ S3 hv ⟨⟨b8,rfl⟩,rfl⟩
  obtain⟨k,hk,rfl⟩:=NT.i4 hv
  obtain⟨hk1,hk2⟩:=List.getElem?_eq_some_iff.mp hk
  rw[List.length_range] at hk1
  rw[List.getElem_range] at hk2
  subst hk2
  have hkl:kl c ins gs x p (os.take (i+1))=kl c ins gs x p (os.take i)++uB (pt (Wd c ins gs (nZ [x]) []) os[i] p) (pt (Wd c ins gs [] []) os[i] p):=by
   unfold kl
   rw[List.take_add_one,List.getElem?_eq_getElem hk1,List.flatMap_append]
   simp
  rw[hkl]
  have hlen:(kl c ins gs x p (os.take i)).length≤i:=by
   unfold kl
   rw[List.length_flatMap]
   refine Nat.le_trans (tP (m:=1) fun z hz=>?_) (by rw[List.length_map,List.length_take];omega)
   obtain⟨y,_,rfl⟩:=List.mem_map.mp hz
   unfold uB
   split
   ·simp
   ·split <;> simp
  generalize kl c ins gs x p (os.take i)=L at hlen ⊢
  have hx1:(RD c ins gs os (nZ [x]) p)[i]? =some (tD (pt (Wd c ins gs (nZ [x]) []) os[i] p)):=by unfold RD;rw [List.getElem?_map,List.getElem?_eq_getElem hk1];rfl
  have hx0:(os.map fun y=>D.lst ((List.range (2 ^ c)).map fun p=>tD (pt (Wd c ins gs [] []) y p)))[i]? =some (.lst ((List.range (2 ^ c)).map fun p=>tD (pt (Wd c ins gs [] []) os[i] p))):=by rw[List.getElem?_map,List.getElem?_eq_getElem hk1];rfl
  have hx2:((List.range (2 ^ c)).map fun p=>tD (pt (Wd c ins gs [] []) os[i] p))[p]? =some (tD (pt (Wd c ins gs [] []) os[i] p)):=by rw[List.getElem?_map,List.getElem?_range hp];rfl
  have hAx:(pt (Wd c ins gs (nZ [x]) []) os[i] p).1=true→(pt (Wd c ins gs (nZ [x]) []) os[i] p).2=false:=vY _
  have hBs:=hsd os[i] (List.getElem_mem hk1) p
  refine⟨kE (cb ins gs os) x (my c ins gs os) f (some (.d (nI p))) (some (.d bits)) (some (.d (.lst (RD c ins gs os (nZ [x]) p)))) (some (.loc S2.length)) (some (.d (nI i))),rfl,?_⟩
  unfold gG
  have ea:e2 cD (ai 6) (ai 8) (down (kE (cb ins gs os) x (my c ins gs os) f (some (.d (nI p))) (some (.d bits)) (some (.d (.lst (RD c ins gs os (nZ [x]) p)))) (some (.loc S2.length)) (some (.d (nI i)))))= .ok (tD (pt (Wd c ins gs (nZ [x]) []) os[i] p)):=aD (a:= .lst (RD c ins gs os (nZ [x]) p)) (b:=nI i) rfl rfl (NT.kj hx1)
  have eb:e2 cD (e2 cD (ai 2) (ai 8)) (ai 4) (down (kE (cb ins gs os) x (my c ins gs os) f (some (.d (nI p))) (some (.d bits)) (some (.d (.lst (RD c ins gs os (nZ [x]) p)))) (some (.loc S2.length)) (some (.d (nI i)))))= .ok (tD (pt (Wd c ins gs [] []) os[i] p)):=aD (a:= .lst ((List.range (2 ^ c)).map fun p=>tD (pt (Wd c ins gs [] []) os[i] p))) (b:=nI p) (aD (a:=my c ins gs os) (b:=nI i) rfl rfl (NT.kj hx0)) rfl (NT.kj hx2)
  generalize pt (Wd c ins gs (nZ [x]) []) os[i] p=A at ea hAx ⊢
  generalize pt (Wd c ins gs [] []) os[i] p=B at eb hBs ⊢
  have hdif:(A.1 || A.2)=true→((A.1 !=B.1) || (A.2 !=B.2))=brk true B A:=fun h=>by
   rw[←DL (safe:=true) hAx hBs,h]
   simp
  refine q8 <| vz (b:=!(A.1 || A.2)) (fk (a:=tD A) (b:= .cS) ea rfl (Il A)) ?_
  unfold uB
  cases hA:(A.1 || A.2) with
  | false=>
    rw[if_pos (show(!false)=true from rfl),if_pos (show(!false)=true from rfl)]
    refine gW (k:=S2.length) rfl ⟨_,hlst _⟩ <| cA (d:= .int 1) rfl ⟨_,_,rfl,hlst _,by rw[List.length_map,List.length_cons];omega,_,rfl,⟨_,rfl⟩,?_⟩
    rw[d6]
    simp
  | true=>
    rw[if_neg (by decide),if_neg (by decide)]
    refine q8 <| vz (b:=brk true B A) ?_ ?_
    ·rw[←hdif hA]
     exact fk (a:=tD A) (b:=tD B) ea eb (G3 A B hAx fun z=>by rw[hBs,z];rfl)
    cases brk true B A with
    | true=>
      rw[if_pos rfl,if_pos rfl]
      refine gW (k:=S2.length) rfl ⟨_,hlst _⟩ <| cA (d:= .int 2) rfl ⟨_,_,rfl,hlst _,by rw[List.length_map,List.length_cons];omega,_,rfl,⟨_,rfl⟩,?_⟩
      rw[d6]
      simp
    | false=>
      rw[if_neg (by decide),if_neg (by decide),List.append_nil]
      exact oj ⟨_,rfl,⟨_,rfl⟩,rfl⟩
 ·subst hδ hS3
  rw[List.length_map,List.length_map,List.length_range,List.take_length]
  exact⟨⟨b8,e2'⟩,rfl⟩
theorem BC(NO:i9 ins gs os)(hc:ins.length=c)(hc1:c≤6)(ho:∀x∈os,1≤x.2.length∧x.2.length≤3)(hsd:∀x∈os,∀p,(pt (Wd c ins gs [] []) x p).2=!(pt (Wd c ins gs [] []) x p).1)(hS:jZ S){Q:V3→aN→Prop}(h:Q (.d (.lst ((List.range (2 ^ c)).map fun p=>nI (kd c ins gs os x p)))) S) :
 W3 (fB [.d (cb ins gs os), .d (nI x), .d (my c ins gs os)] S) Q:=by
 have hz:sizeLine=16777216:=sizeLine_eq
 have hO:=NO.ho
 have hpow:2 ^ c≤64:=Nat.pow_le_pow_right (by omega) (by omega:c≤6)
 unfold fB
 refine jW hS (qX rfl ?_)
 simp only[bG,eG,List.map_cons,List.map_nil,List.length_cons,List.length_nil,List.replicate,List.cons_append,List.nil_append,Nat.reduceAdd,Nat.reduceSub]
 unfold i0
 refine aS <| bz (by simp only[List.length_cons,List.length_nil,List.length_set];omega) <| iC (ds:=[]) rfl ⟨_,rfl,?_⟩
 simp only[List.set_cons_succ,List.set_cons_zero]
 refine aS <| f7 <| lO (ds:=(List.range (2 ^ c)).map fun p:Nat=>D.tup [.int (p:Int),cz ((bw c).getD p [])]) ?_ ?_
 ·rw[←A7]
  exact BQ (aT (ds:=[nI c]) (aQ (aT (ds:=[.lst (ins.map MT.inD)]) (aQ (aD (a:=cb ins gs os) (b:= .int 0) rfl rfl rfl) rfl) (by rw[kL,List.length_map,hc];rfl)) rfl) (yU (by omega)))
 refine(cv (fun i δ S2=>(∃a4 a5 a6 a7 a8,δ=kE (cb ins gs os) x (my c ins gs os) S.length a4 a5 a6 a7 a8)∧jZ S2∧∃T,S2=S++SO.lst ((List.range i).map fun p=>nI (kd c ins gs os x p)) ::T) ⟨⟨_,_,_,_,_,rfl⟩,jZ.push hS fun _=>rfl,[],rfl⟩ ?_).mono fun o S2 ⟨δ2,e2',⟨a4,a5,a6,a7,a8,hδ⟩,hC,T,hS2⟩=>⟨δ2,e2',?_⟩
 ·rintro p v δ S2 hv ⟨⟨a4,a5,a6,a7,a8,rfl⟩,hC,T,hS2⟩
  obtain⟨p',hp',rfl⟩:=NT.i4 hv
  obtain⟨hp1,hp2⟩:=List.getElem?_eq_some_iff.mp hp'
  rw[List.length_range] at hp1
  rw[List.getElem_range] at hp2
  subst hp2
  have hpb:(bw c)[p]? =some ((bw c).getD p []):=by
   have:p < (bw c).length:=by rw[cN];exact hp1
   rw[List.getD_eq_getElem?_getD,List.getElem?_eq_getElem this];rfl
  generalize hbits:(bw c).getD p []=bits at hpb
  refine⟨kE (cb ins gs os) x (my c ins gs os) S.length (some (.d (nI p))) (some (.d (cz bits))) a6 a7 a8,rfl,?_⟩
  have hf0:S2[S.length]? =some (.lst ((List.range p).map fun p=>nI (kd c ins gs os x p))):=by
   rw[hS2,List.getElem?_append_right (Nat.le_refl _),Nat.sub_self];rfl
  have hlt:S.length < S2.length:=(List.getElem?_eq_some_iff.mp hf0).1
  unfold jV
  refine aS <| bz (by unfold kE;simp only[List.length_cons,List.length_nil];omega) <| Gh (T:=nZ [x]) rfl NO hc ho hpb hC rfl rfl (eh (ds:=(nZ [x]).map .int) rfl (by unfold nZ;simp;omega)) rfl ⟨_,rfl,?_⟩
  unfold kE
  simp only[List.set_cons_succ,List.set_cons_zero]
  refine aS <| bz (by simp only[List.length_cons,List.length_nil,List.length_set];omega) <| iC (ds:=[.int 0]) rfl ⟨_,rfl,?_⟩
  simp only[List.set_cons_succ,List.set_cons_zero]
  refine aS <| f7 <| lO (ds:=(List.range os.length).map nI) ?_ ?_
  ·rw[←sY]
   exact gq (n:=os.length) (aT (ds:=[.lst (RD c ins gs os (nZ [x]) p)]) rfl (by rw[kL];unfold RD;rw [List.length_map])) (by omega)
  refine(wQ hO hsd hp1 rfl).mono fun o S3 ⟨⟨b8,eo⟩,hS3⟩=>⟨_,eo,?_⟩
  subst hS3
  have hf1:∀L:List D,(S2++[SO.lst L])[S.length]? =some (.lst ((List.range p).map fun p=>nI (kd c ins gs os x p))):=fun L=>by rw[List.getElem?_append_left hlt];exact hf0
  have hmx:yC [.lst ((0 ::kl c ins gs x p os).map D.int)]= .ok (nI (kd c ins gs os x p)):=by
   show(match ints? ((0 ::kl c ins gs x p os).map D.int) with | some (n ::ns)=>R.ok (D.int (ns.foldl max n)) | _=> .no)=_
   rw[yb]
   show R.ok (D.int ((kl c ins gs x p os).foldl max 0))=_
   rw[Fx];rfl
  have hres:res (S2++[SO.lst ((0 ::kl c ins gs x p os).map D.int)]) (.loc S2.length)=some (.lst ((0 ::kl c ins gs x p os).map D.int)):=by unfold res;rw [bt]
  generalize (0 ::kl c ins gs x p os).map D.int=KL at hmx hres
  refine gW (k:=S.length) rfl ⟨_,hf1 _⟩ <| tG (d:=nI (kd c ins gs os x p)) ?_ (by unfold nI kx;rfl) ⟨_,_,rfl,hf1 _,by rw[List.length_map,List.length_range];omega,_,rfl,⟨_,_,_,_,_,rfl⟩,?_,?_⟩
  ·refine aT (ds:=[.lst KL]) (aQ ?_ rfl) hmx
   unfold kE
   simp only[bY,List.map_cons,List.map_nil,hres]
   rfl
  ·exact jZ.set (jZ.push hC fun _=>rfl) _ fun _=>rfl
  ·refine⟨T++[.lst KL],?_⟩
   rw[hS2,List.range_succ,List.map_append,List.append_assoc,List.set_append_right _ _ (Nat.le_refl _),Nat.sub_self]
   rfl
 ·subst hδ hS2
  rw[List.length_map,List.length_map,List.length_range]
  refine ef <| w_var (v:= .loc S.length) rfl ⟨_,rfl,?_,⟨_,rfl⟩,_,?_,h⟩
  ·show decide (S.length≤S.length)=true
   exact decide_eq_true (Nat.le_refl _)
  ·unfold res
   rw[List.getElem?_append_right (Nat.le_refl _),Nat.sub_self];rfl
end
end K19
end
section
set_option maxRecDepth 100000
set_option maxHeartbeats 4000000
namespace K19
open PySem PySem.Spec PyProof.Rows L2 L3 MT
theorem Cz{T:List Nat}{p:Nat}:gy 3 (tZ T p):=by
 unfold tZ
 refine gy.tup fun d hd=>?_
 simp only[List.mem_cons,List.not_mem_nil,or_false] at hd
 rcases hd with rfl | rfl | rfl
 ·exact(gy.str (by decide+kernel)).mono (by omega)
 ·unfold g8
  exact(gy.tup (n:=0) fun y hy=>by obtain⟨z,_,rfl⟩:=List.mem_map.mp hy;exact gy.int _).mono (by omega)
 ·exact(gy.int _).mono (by omega)
theorem Bz:gy 3 qH:=by
 unfold qH
 exact(gy.tup (n:=0) fun d hd=>by rw[List.mem_singleton.mp hd];exact gy.str (by decide+kernel)).mono (by omega)
section
variable {c:Nat} {ins:List (Str × Nat)} {gs:List Gt} {os:List (Str × List Nat)} {safe:Bool} {m:Nat}
theorem z6{x:Str × List Nat}{p:Nat}(hl:1≤x.2.length∧x.2.length≤3)(h2:∀a b,x.2=[a,b]→iI (Wd c ins gs [] []) a p=iI (Wd c ins gs [] []) b p):(pt (Wd c ins gs [] []) x p).2=!(pt (Wd c ins gs [] []) x p).1:=by
 unfold pt tell
 rw[List.map_map]
 obtain⟨s,ws⟩:=x
 match ws,hl,h2 with
 | [a],_,_=>show iI _ a p=!(!(iI _ a p));rw [Bool.not_not]
 | [a,b],_,h2=>
   show(iI (Wd c ins gs [] []) a p && iI (Wd c ins gs [] []) b p)=!(!(iI (Wd c ins gs [] []) a p || iI (Wd c ins gs [] []) b p))
   rw[h2 a b rfl]
   cases iI (Wd c ins gs [] []) b p <;> rfl
 | [a,b,d],_,_=>
   show _=!(!_)
   rw[Bool.not_not];rfl
theorem D9{p:Nat}(hsd:∀x∈os,∀p,(pt (Wd c ins gs [] []) x p).2=!(pt (Wd c ins gs [] []) x p).1):mf safe c ins gs os (nZ []) p=false:=by
 show(os.any fun x=>brk safe (pt (Wd c ins gs [] []) x p) (pt (Wd c ins gs [] []) x p))=false
 rw[List.any_eq_false]
 intro x hx
 have h:=hsd x hx p
 generalize pt (Wd c ins gs [] []) x p=A at h ⊢
 obtain⟨a,b⟩:=A
 have h:b=!a:=h
 subst h
 cases a <;> cases safe <;> decide
theorem CT(hsd:∀x∈os,∀p,(pt (Wd c ins gs [] []) x p).2=!(pt (Wd c ins gs [] []) x p).1):jQ safe c ins gs os []=none:=by
 unfold jQ
 have:mf safe c ins gs os (nZ [])=fun _=>false:=funext fun p=>D9 hsd
 rw[this]
 have:(List.range (2 ^ c)).filter (fun _=>false)=[]:=by rw[List.filter_eq_nil_iff];intro a _;decide
 rw[this];rfl
theorem AK(hsd:∀x∈os,∀p,(pt (Wd c ins gs [] []) x p).2=!(pt (Wd c ins gs [] []) x p).1):bears safe c ins gs os m=((((List.range m).map (·+1)).findSome? fun s=>(lM (iA gs) s).findSome? (jQ safe c ins gs os))).getD qH:=by
 unfold bears
 congr 1
 have t0:(lM (iA gs) 0).findSome? (jQ safe c ins gs os)=none:=by
  show([[]]:List (List Nat)).findSome? _=none
  rw[List.findSome?_cons,CT hsd];rfl
 rw[List.range_succ_eq_map,List.findSome?_cons,t0]
theorem zD:∃ds,bears safe c ins gs os m= .tup ds∧gy 3 (.tup ds):=by
 unfold bears
 cases h:(List.range (m+1)).findSome? (fun s=>(lM (iA gs) s).findSome? (jQ safe c ins gs os)) with
 | none=>exact⟨_,rfl,Bz⟩
 | some d=>
   obtain⟨s,hs,h2⟩:=List.exists_of_findSome?_eq_some h
   obtain⟨T,hT,h3⟩:=List.exists_of_findSome?_eq_some h2
   unfold jQ at h3
   cases h4:((List.range (2 ^ c)).filter (mf safe c ins gs os (nZ T))).head? with
   | none=>rw [h4] at h3;cases h3
   | some p=>rw [h4] at h3;cases h3;exact⟨_,rfl,Cz⟩
theorem uq:jC (bears safe c ins gs os m) (bears safe c ins gs os m)= .ok (.bl true):=by
 obtain⟨ds,e,f⟩:=zD (safe:=safe) (c:=c) (ins:=ins) (gs:=gs) (os:=os) (m:=m)
 rw[e]
 exact NT.eq_self f (by omega)
theorem su(hsd:∀x∈os,∀p,(pt (Wd c ins gs [] []) x p).2=!(pt (Wd c ins gs [] []) x p).1):bears safe c ins gs os 1=((iA gs).findSome? fun x=>((List.range (2 ^ c)).filter (mf safe c ins gs os (nZ [x]))).head?.map (tZ [x])).getD qH:=by
 rw[AK hsd]
 congr 1
 show [1].findSome? _=_
 rw[List.findSome?_cons,Ea,mT,List.findSome?_nil]
 unfold jQ
 cases(iA gs).findSome? fun x=>((List.range (2 ^ c)).filter (mf safe c ins gs os (nZ [x]))).head?.map (tZ [x]) <;> rfl
noncomputable def zW(c:Nat)(ins:List (Str × Nat))(gs:List Gt)(os:List (Str × List Nat))(x:Nat):D:= .lst ((List.range (2 ^ c)).map fun p=>nI (kd c ins gs os x p))
noncomputable def jP(c:Nat)(ins:List (Str × Nat))(gs:List Gt)(os:List (Str × List Nat))(x:Nat):D:= .tup [nI x,zW c ins gs os x]
theorem uD{us:List Nat}{l:Nat}(hc:c≤6):dO [.lst (us.map (jP c ins gs os)),nI l]= .ok ((us.findSome? fun x=>((List.range (2 ^ c)).filter (fun p=>decide (l≤kd c ins gs os x p))).head?.map (tZ [x])).getD qH):=by
 have hz:sizeLine=16777216:=sizeLine_eq
 have hpow:2 ^ c≤64:=Nat.pow_le_pow_right (by omega) (by omega:c≤6)
 unfold dO oT
 refine c7 ?_
 obtain⟨o,e,h⟩:=qR (t:=eY 2 (b3 (aY 2) (b3 (aY 3) eZ))) (body:=gL) (jP c ins gs os) (fun x=>((List.range (2 ^ c)).filter (fun p=>decide (l≤kd c ins gs os x p))).head?.map (tZ [x])) (fun δ=>∃a2 a3 a4,δ=[.val (.lst (us.map (jP c ins gs os))), .val (nI l),a2,a3,a4]) (xs:=us) (δ:=[.val (.lst (us.map (jP c ins gs os))), .val (nI l), .un, .un, .un]) ⟨_,_,_,rfl⟩ (by
  rintro x hx δ ⟨a2,a3,a4,rfl⟩
  generalize hF:(List.range (2 ^ c)).filter (fun p=>decide (l≤kd c ins gs os x p))=F
  rw[show eY 2 (b3 (aY 2) (b3 (aY 3) eZ)) (jP c ins gs os x) [.val (.lst (us.map (jP c ins gs os))), .val (nI l),a2,a3,a4]= .ok [.val (.lst (us.map (jP c ins gs os))), .val (nI l), .val (nI x), .val (zW c ins gs os x),a4] from rfl,R.aM]
  unfold gL
  have e1:ib 4 (eNew (gB (ee (aP cP (au (ai 3) aL))) (aY 0) (b2 zT (e2 cD (ai 2) (ai 0)) (ai 1)) (ai 0) [(Str.ofString "number")] [1,3])) [.val (.lst (us.map (jP c ins gs os))), .val (nI l), .val (nI x), .val (zW c ins gs os x),a4]= .ok (.nx [.val (.lst (us.map (jP c ins gs os))), .val (nI l), .val (nI x), .val (zW c ins gs os x), .val (.lst (F.map nI))]):=by
   refine hX (d:= .lst (F.map nI)) (gb (gR (ds:=(List.range (2 ^ c)).map nI) ?_ (by simp;omega) ?_)) (by simp)
   ·rw[←sY]
    exact gq (n:=2 ^ c) (aT (ds:=[zW c ins gs os x]) rfl (by unfold zW;rw [kL,List.length_map,List.length_range])) (by omega)
   ·rw[←hF]
    refine NT.mS (fun p=>decide (l≤kd c ins gs os x p)) nI nI fun p hp=>?_
    rw[List.mem_range] at hp
    refine⟨[.val (nI p), .val (nI l), .val (zW c ins gs os x)],rfl,?_,fun _=>rfl⟩
    refine fk (a:=nI (kd c ins gs os x p)) (b:=nI l) (aD (a:=zW c ins gs os x) (b:=nI p) rfl rfl (NT.kj (by rw[List.getElem?_map,List.getElem?_range hp];rfl))) rfl ?_
    show R.ok (D.bl (decide ((kd c ins gs os x p:Int)≥(l:Int))))=_
    congr 2
    by_cases q:l≤kd c ins gs os x p
    ·rw[decide_eq_true q,decide_eq_true (by omega)]
    ·rw[decide_eq_false q,decide_eq_false (by omega)]
  have e2':b2 rn (ai 4) (eNew (dA aL)) [.val (.lst (us.map (jP c ins gs os))), .val (nI l), .val (nI x), .val (zW c ins gs os x), .val (.lst (F.map nI))]= .ok (!F.isEmpty):=by
   refine fk (a:= .lst (F.map nI)) (b:= .lst []) rfl rfl ?_
   unfold rn
   rw[CM];rfl
  cases F with
  | nil=>exact⟨_,bK e1 (gA e2' rfl),_,rfl,_,_,_,rfl⟩
  | cons p r=>
    refine⟨_,bK e1 (lV e2' (cB (eh (ds:=[.str (Str.ofString "breaks"),g8 [x],nI p]) (aQ rfl (aQ (eh rfl (by simp;omega)) (aQ (aD (a:= .lst ((p ::r).map nI)) (b:= .int 0) rfl rfl (NT.kj (z:=0) rfl)) rfl))) (by simp;omega)))),rfl⟩)
 have hf:o9 (fQ (ai 0)) (eY 2 (b3 (aY 2) (b3 (aY 3) eZ))) gL (cJ ja [.lst (us.map (jP c ins gs os)),nI l])= .ok o:=by
  unfold o9
  rw[pT (ds:=us.map (jP c ins gs os)) rfl,R.aM]
  exact e
 generalize us.findSome? (fun x=>((List.range (2 ^ c)).filter (fun p=>decide (l≤kd c ins gs os x p))).head?.map (tZ [x]))=r at h ⊢
 cases r with
 | some d=>
   have h:o= .rt d:=h
   subst h
   exact NT.ia hf
 | none=>
   obtain⟨δ2,rfl,a2,a3,a4,rfl⟩:=h
   exact bK hf (cB rfl)
theorem GG(hsd:∀x∈os,∀p,(pt (Wd c ins gs [] []) x p).2=!(pt (Wd c ins gs [] []) x p).1)(x p:Nat):decide (1≤kd c ins gs os x p)=mf false c ins gs os (nZ [x]) p:=by
 have e:mf false c ins gs os (nZ [x]) p=(mf true c ins gs os (nZ [x]) p || os.any fun y=>!((pt (Wd c ins gs (nZ [x]) []) y p).1 || (pt (Wd c ins gs (nZ [x]) []) y p).2)):=by
  unfold mf
  rw[←t5]
  exact mv fun y hy=>B6 (vY _) (hsd y hy p)
 rw[e]
 unfold kd
 cases mf true c ins gs os (nZ [x]) p <;> cases(os.any fun y=>!((pt (Wd c ins gs (nZ [x]) []) y p).1 || (pt (Wd c ins gs (nZ [x]) []) y p).2)) <;> rfl
theorem Gg(x p:Nat):decide (2≤kd c ins gs os x p)=mf true c ins gs os (nZ [x]) p:=by
 unfold kd
 cases mf true c ins gs os (nZ [x]) p <;> cases(os.any fun y=>!((pt (Wd c ins gs (nZ [x]) []) y p).1 || (pt (Wd c ins gs (nZ [x]) []) y p).2)) <;> rfl
theorem vO{k:Int}{f:M}(x:Nat)(h:∀p,((kd c ins gs os x p:Int)==k)=f p):kK (zW c ins gs os x) [.int k]= .ok (nI (uQ c f)):=by
 have e:(List.range (2 ^ c)).map (fun p=>nI (kd c ins gs os x p))=((List.range (2 ^ c)).map fun p=>(kd c ins gs os x p:Int)).map D.int:=by rw[List.map_map];rfl
 unfold zW
 rw[e]
 show(match ints? (((List.range (2 ^ c)).map fun p=>(kd c ins gs os x p:Int)).map D.int) with | some ss=>R.ok (D.int (ss.count k:Nat)) | none=> .no)=_
 rw[yb]
 show R.ok (D.int (((List.range (2 ^ c)).map fun p=>(kd c ins gs os x p:Int)).count k:Nat))=R.ok (D.int (uQ c f:Nat))
 congr 3
 unfold uQ
 rw[List.count,List.countP_map,List.countP_eq_length_filter]
 congr 2
 funext p
 exact h p
theorem vT{g:D→List D→R D}{f:FD}{fs:ax→R (List D)}{δ:ax}{es ds:List D}{r:R D}(h1:f δ= .ok (.lst es))(h2:fs δ= .ok ds)(h3:g (.lst es) ds=r):sf "list" g f fs δ=r:=by
 unfold sf
 rw[h1,R.aM,h2,R.aM,h3]
 have:(tyName (.lst es)=="list" && (D.atom (.lst es) || "list"=="list"))=true:=by
  show("list"=="list" && (D.atom (.lst es) || "list"=="list"))=true
  rw[show("list"=="list")=true from by decide]
  simp
 rw[this];rfl
theorem De(hsd:∀x∈os,∀p,(pt (Wd c ins gs [] []) x p).2=!(pt (Wd c ins gs [] []) x p).1){us:List Nat}{δ:ax}{own:List Str}(h7:ai 7 δ= .ok (.lst (us.map (jP c ins gs os))))(hu:us.length < 1000)(hkp:qJ own [] δ=[.un, .un]) :
 gB (fQ (ai 7)) (eY 2 (b3 (aY 0) (b3 (aY 1) eZ))) sW (dU (au (ai 0) (au (sf "list" kK (ai 1) (au (eC (.int 2)) aL)) (au (sf "list" kK (ai 1) (au (eC (.int 1)) aL)) aL)))) own [] δ= .ok (us.map (nY c ins gs os)):=by
 have hz:sizeLine=16777216:=sizeLine_eq
 refine gR (pT h7) (by rw[List.length_map];omega) ?_
 rw[hkp]
 refine NT.fI (jP c ins gs os) _ fun x hx=>⟨[.val (nI x), .val (zW c ins gs os x)],rfl,rfl,?_⟩
 refine eh (ds:=[nI x,nI (uQ c (mf true c ins gs os (nZ [x]))),nI (uQ c (IC c ins gs os x))]) (aQ rfl (aQ (vT rfl rfl (vO x fun p=>?_)) (aQ (vT rfl rfl (vO x fun p=>?_)) rfl))) (by simp;omega)
 ·unfold kd
  cases mf true c ins gs os (nZ [x]) p <;> cases(os.any fun y=>!((pt (Wd c ins gs (nZ [x]) []) y p).1 || (pt (Wd c ins gs (nZ [x]) []) y p).2)) <;> rfl
 ·rw[HX hsd]
  unfold kd
  cases mf true c ins gs os (nZ [x]) p <;> cases(os.any fun y=>!((pt (Wd c ins gs (nZ [x]) []) y p).1 || (pt (Wd c ins gs (nZ [x]) []) y p).2)) <;> rfl
end
theorem Dv(ns:List Int)(k:Nat):∃c:Int,d8 [.lst (ns.map .int), .int k]= .ok (.int c):=by
 by_cases h:k < ns.length
 ·refine⟨ns[k],?_⟩
  unfold d8 ju
  refine c7 ?_
  have e:pj (b2 zX (ai 1) (aP cP (au (ai 0) aL))) (er (e2 cD (ai 0) (ai 1))) jz (cJ jq [.lst (ns.map .int), .int k])= .ok (.rt (.int ns[k])):=by
   refine lV ?_ (cB (aD (a:= .lst (ns.map .int)) (b:= .int k) rfl rfl (jB (tf (by rw[List.getElem?_map,List.getElem?_eq_getElem h];rfl)))))
   refine fk (a:= .int k) (b:= .int ns.length) rfl (aT (ds:=[.lst (ns.map .int)]) rfl (by rw[kL,List.length_map])) ?_
   show R.ok (D.bl (decide ((k:Int) < (ns.length:Int))))=_
   rw[decide_eq_true (by omega)]
  unfold el
  rw[e];rfl
 ·refine⟨0,?_⟩
  unfold d8 ju
  refine c7 (bK (gA ?_ rfl) rfl)
  refine fk (a:= .int k) (b:= .int ns.length) rfl (aT (ds:=[.lst (ns.map .int)]) rfl (by rw[kL,List.length_map])) ?_
  show R.ok (D.bl (decide ((k:Int) < (ns.length:Int))))=_
  rw[decide_eq_false (by omega)]
theorem D0(ns:List Int)(lo hi:Option Int):L2.cutD (ns.map D.int) lo hi=(L2.cutD ns lo hi).map D.int:=by
 unfold L2.cutD
 rw[List.length_map,List.map_take,List.map_drop]
theorem CV:(10000000000000000000000000000000000000000:Int).natAbs.log2 < 9000:=by decide+kernel
theorem Bv(ns:List Int)(hns:ns.length≤63):xU [.lst (ns.map D.int)]= .ok (.bl true):=by
 have hz:sizeLine=16777216:=sizeLine_eq
 have key:W3 (lU lY rG [.d (.lst (ns.map .int))] []) fun v S1=>v= .d (.bl true)∧S1=[]:=by
  refine qg (qX rfl ?_)
  simp only[bG,lY,List.map_cons,List.map_nil,List.length_cons,List.length_nil,List.replicate,List.cons_append,List.nil_append,Nat.reduceAdd,Nat.reduceSub]
  unfold rG
  obtain⟨c0,ec0⟩:=Dv ns 0
  refine aS <| bz (by simp only[List.length_cons,List.length_nil,List.length_set];omega) <| dc <| ay <| cA (d:= .int c0) (aT (ds:=[.lst (ns.map .int), .int 0]) rfl ec0) <| bS <| yg c0 Flat.nil fun S1 p1 l1 _=>⟨_,rfl,?_⟩
  simp only[List.set_cons_succ,List.set_cons_zero]
  simp only[List.length_nil] at p1 l1 ⊢
  refine aS <| bz (by simp only[List.length_cons,List.length_nil,List.length_set];omega) <| cA (d:= .lst ((L2.cutD ns (some 1) (some 61)).map .int)) ?_ ⟨_,rfl,?_⟩
  ·refine xl (d:= .lst (ns.map .int)) (lo:=some 1) (hi:=some 61) rfl rfl rfl ?_
   show R.ok (D.lst (L2.cutD (ns.map D.int) (some 1) (some 61)))=_
   rw[D0]
  simp only[List.set_cons_succ,List.set_cons_zero]
  have hcl:(L2.cutD ns (some 1) (some 61)).length≤60:=by
   unfold L2.cutD
   rw[show(some (1:Int))=some ((1:Nat):Int) from rfl,show(some (61:Int))=some ((61:Nat):Int) from rfl,HT.sS,HT.sS,List.length_take]
   omega
  generalize L2.cutD ns (some 1) (some 61)=cs at hcl
  refine aS <| f7 <| lO (ds:=cH 0 (2 - (cs.length:Int)).toNat) ?_ ?_
  ·have e:e2 jG (eC (.int 2)) (aP cP (au (ai 2) aL)) (down [some (.d (.lst (ns.map .int))),some (.loc 0),some (.d (.lst (cs.map .int))),none,none,none,none,none])= .ok (.int (2 - (cs.length:Int))):=
    aD (a:= .int 2) (b:= .int cs.length) rfl (aT (ds:=[.lst (cs.map .int)]) rfl (by rw[kL,List.length_map])) rfl
   unfold ee
   rw[e,R.aM]
   show R.cc (decide (-(2 ^ 62)≤2 - (cs.length:Int)∧2 - (cs.length:Int) < 2 ^ 62)) _=_
   rw[bU _ ⟨by omega,by omega⟩]
  refine(cv (fun i δ S2=>pE 0 S2∧∃(ds:List Int) (a3:Option V3),ds.length=cs.length+i∧δ=[some (.d (.lst (ns.map .int))),some (.loc 0),some (.d (.lst (ds.map .int))),a3,none,none,none,none])
   ⟨p1,cs,none,rfl,rfl⟩ ?_).mono fun o S2 ⟨δ2,e2',p2,ds,a3,hds,hδ⟩=>⟨δ2,e2',?_⟩
  ·rintro i v δ S2 hv ⟨p2,ds,a3,hds,rfl⟩
   have hi:i < 4:=by
    have:=(List.getElem?_eq_some_iff.mp hv).1
    rw[List.length_map,cH,List.length_map,List.length_range] at this
    omega
   refine⟨_,rfl,?_⟩
   unfold xY
   refine bz (by simp only[List.length_cons,List.length_nil,List.length_set];omega) <| zV <| cA (d:= .lst (ds.map .int)) rfl <| Hj <| ay <| dc <| ay <| w_var (v:= .loc 0) rfl <| ay <| cA (d:= .int 10000000000000000000000000000000000000000) ?_ <| bS <| tu p2 (by omega) CV fun r S3 h1 h2 v3=>bS ⟨by simp;omega,_,_, .lst ((ds++[r]).map .int),rfl,rfl,?_,_,rfl,v3.p,ds++[r],some v,by simp [hds];omega,rfl⟩
   ·exact rfl
   ·rw[List.map_append]
    exact t9 (by rw[List.length_map];simp;omega)
  have hdl:ds.length≤62∧2≤ds.length:=by
   rw[List.length_map,cH,List.length_map,List.length_range] at hds
   omega
  subst hδ
  have hmi:∃mi:Int,(1≤mi∧mi≤6)∧cD (.lst [.int 6, .int 6, .int 4, .int 3, .int 3, .int 2, .int 2]) (.int ((ds.length:Int) / 10))= .ok (.int mi):=by
   obtain q | q | q | q | q | q | q:(ds.length:Int) / 10=0∨(ds.length:Int) / 10=1∨(ds.length:Int) / 10=2∨(ds.length:Int) / 10=3∨(ds.length:Int) / 10=4∨(ds.length:Int) / 10=5∨(ds.length:Int) / 10=6:=by omega
   all_goals rw[q];exact⟨_,⟨by decide,by decide⟩,rfl⟩
  obtain⟨mi,hmi,emi⟩:=hmi
  refine aS <| bz (by simp only[List.length_cons,List.length_nil,List.length_set];omega) <| dc <| ay <| w_var (v:= .loc 0) rfl <| ay <| cA (d:= .lst (ds.map .int)) rfl <| ay <| cA (d:= .int mi) ?_ <| ay <| cA (d:= .int 1) rfl <| bS <| Az p2 (by omega) hmi fun l gs os S4 hlw hl1 hl6 hgl hgs hol1 hol hos v4=>⟨_,rfl,?_⟩
  ·exact aD (a:= .lst [.int 6, .int 6, .int 4, .int 3, .int 3, .int 2, .int 2]) (b:= .int ((ds.length:Int) / 10)) rfl (aD (a:= .int ds.length) (b:= .int 10) (aT (ds:=[.lst (ds.map .int)]) rfl (by rw[kL,List.length_map])) rfl (t7 (by omega) (by decide))) emi
  simp only[List.set_cons_succ,List.set_cons_zero]
  have NO:i9 l gs os:=⟨by omega,fun x hx=>by have:=hlw x hx;omega,by omega,hgs,by omega,fun x hx=>⟨by have:=(hos x hx).1;omega,(hos x hx).2.1⟩⟩
  have ho:∀x∈os,1≤x.2.length∧x.2.length≤3:=fun x hx=>(hos x hx).1
  have hsd:∀x∈os,∀p,(pt (Wd l.length l gs [] []) x p).2=!(pt (Wd l.length l gs [] []) x p).1:=fun x hx p=>z6 (ho x hx) fun a b hab=>(hos x hx).2.2 a b hab (q_ l.length) pZ p
  have hF4:Flat S4:=v4.p.1
  have hul:(iA gs).length≤62:=Nat.le_trans tM (by omega)
  refine aS <| bz (by simp only[List.length_cons,List.length_nil,List.length_set];omega) <| dc <| ay <| cA (d:=cb l gs os) rfl <| bS <| xh (c:=l.length) NO rfl (by omega) ho hF4.IE ⟨_,rfl,?_⟩
  simp only[List.set_cons_succ,List.set_cons_zero]
  refine aS <| bz (by simp only[List.length_cons,List.length_nil,List.length_set];omega) <| h_ (fun j es S8=>S8=S4∧es=(((List.range gs.length).take j).filter fun i=>match gs[i]? with | some g=>!g.2.2 | none=>false).map nI) (lO (ds:=(List.range gs.length).map nI) ?_ ⟨by simp;omega,⟨rfl,by simp⟩,?_,?_⟩)
  ·rw[←sY]
   exact gq (n:=gs.length) (aT (ds:=[.lst (gs.map gZ)]) (aQ (aD (a:=cb l gs os) (b:= .int 1) rfl rfl rfl) rfl) (by rw[kL,List.length_map])) (by omega)
  ·rintro j v es S8 hv ⟨rfl,rfl⟩
   obtain⟨i,hi,rfl⟩:=NT.i4 hv
   obtain⟨hi1,hi2⟩:=List.getElem?_eq_some_iff.mp hi
   rw[List.length_range] at hi1
   rw[List.getElem_range] at hi2
   subst hi2
   refine⟨[some (.d (nI j)),some (.d (cb l gs os))],rfl,vz (zf (ins:=l) (os:=os) hi1 rfl rfl) ?_⟩
   rw[List.take_add_one,hi,List.filter_append,List.map_append]
   show if(match gs[j]? with | some g=>!g.2.2 | none=>false)=true then _ else _
   cases hq:(match gs[j]? with | some g=>!g.2.2 | none=>false) with
   | true=>
     rw[if_pos rfl]
     refine cA (d:=nI j) rfl ⟨_,rfl,rfl,?_⟩
     congr 1
     simp only[Option.toList_some,List.filter_cons,List.filter_nil]
     rw[hq];rfl
   | false=>
     rw[if_neg (by decide)]
     refine⟨rfl,?_⟩
     simp only[Option.toList_some,List.filter_cons,List.filter_nil]
     rw[hq]
     simp
  ·rintro es S8 ⟨rfl,rfl⟩
   rw[List.length_map,List.length_map,List.length_range,List.take_of_length_le (by simp)]
   refine⟨_,rfl,?_⟩
   simp only[List.set_cons_succ,List.set_cons_zero]
   show W3 (bu _ _ [some (.d (.lst (ns.map .int))),some (.loc 0),some (.d (.lst (ds.map .int))),a3,some (.d (cb l gs os)),some (.d (my l.length l gs os)),some (.d (.lst ((iA gs).map nI))),none] S8) _
   refine aS <| bz (by simp only[List.length_cons,List.length_nil,List.length_set];omega) <| h_ (fun j es S9=>S9=S8∧es=((iA gs).map (jP l.length l gs os)).take j) (lO (ds:=(iA gs).map nI) rfl ⟨by rw[List.length_map,List.length_map];omega,⟨rfl,by simp⟩,?_,?_⟩)
   ·rintro j v es S9 hv ⟨rfl,rfl⟩
    obtain⟨x,hx,rfl⟩:=NT.i4 hv
    refine⟨[some (.d (nI x)),some (.d (cb l gs os)),some (.d (my l.length l gs os))],rfl,sF ?_⟩
    rw[if_pos rfl]
    refine sN <| ay <| cA (d:=nI x) rfl <| ay <| dc <| ay <| cA (d:=cb l gs os) rfl <| ay <| cA (d:=nI x) rfl <| ay <| cA (d:=my l.length l gs os) rfl <| bS <| BC (c:=l.length) NO rfl (by omega) ho hsd hF4.IE <| bS ⟨by simp;omega,jP l.length l gs os x,rfl,rfl,?_⟩
    rw[List.take_add_one,List.getElem?_map,hx]
    rfl
   ·rintro es S9 ⟨rfl,rfl⟩
    rw[List.length_map,List.length_map,List.take_of_length_le (by simp)]
    refine⟨_,rfl,?_⟩
    simp only[List.set_cons_succ,List.set_cons_zero]
    have f1:=uD (c:=l.length) (ins:=l) (gs:=gs) (os:=os) (us:=iA gs) (l:=1) (by omega)
    have f2:=uD (c:=l.length) (ins:=l) (gs:=gs) (os:=os) (us:=iA gs) (l:=2) (by omega)
    simp only[GG hsd,Gg] at f1 f2
    have b1:=su (safe:=false) hsd
    have b2':=su (safe:=true) hsd
    have f1:dO [.lst ((iA gs).map (jP l.length l gs os)),nI 1]= .ok (bears false l.length l gs os 1):=by rw[b1];exact f1
    have f2:dO [.lst ((iA gs).map (jP l.length l gs os)),nI 2]= .ok (bears true l.length l gs os 1):=by rw[b2'];exact f2
    have hmat:=De (c:=l.length) (ins:=l) (gs:=gs) (os:=os) hsd (us:=iA gs) (δ:=down [some (.d (.lst (ns.map .int))),some (.loc 0),some (.d (.lst (ds.map .int))),a3,some (.d (cb l gs os)),some (.d (my l.length l gs os)),some (.d (.lst ((iA gs).map nI))),some (.d (.lst ((iA gs).map (jP l.length l gs os))))]) (own:=[(Str.ofString "place"),(Str.ofString "kinds")]) rfl (by omega) rfl
    have fitM:gy 2 (.lst ((iA gs).map (nY l.length l gs os))):=gy.lst fun d hd=>by
     obtain⟨x,_,rfl⟩:=List.mem_map.mp hd
     exact gy.tup fun y hy=>by
      simp only[List.mem_cons,List.not_mem_nil,or_false] at hy
      rcases hy with rfl | rfl | rfl <;> exact gy.int _
    generalize hR:D.lst ((iA gs).map (jP l.length l gs os))=RW at f1 f2 hmat
    refine aS <| q8 <| Hx <| dc <| ay <| cA (d:=cb l gs os) rfl <| bS <| za (c:=l.length) NO rfl (by omega) ho (by omega) hF4.IE <| cA (d:= .lst ((iA gs).map (nY l.length l gs os))) (gb hmat) ⟨_,_,false,rfl,rfl,?_,?_⟩
    ·unfold rn
     rw[fitM.K0 (by omega)];rfl
    rw[if_neg (by decide)]
    refine oj ⟨_,rfl,?_⟩
    refine ef <| w_and <| zV <| dc <| ay <| cA (d:=cb l gs os) rfl <| ay <| cA (d:=nI 1) rfl <| ay <| cA (d:= .str (vm false)) rfl <| bS <| vx (c:=l.length) NO rfl (by omega) ho (by omega) (by omega) hF4.IE <| cA (d:=bears false l.length l gs os 1) (aT (ds:=[RW,nI 1]) rfl f1) ⟨_,_,_,rfl,rfl,uq,rfl,?_⟩
    exact zV <| dc <| ay <| cA (d:=cb l gs os) rfl <| ay <| cA (d:=nI 1) rfl <| ay <| cA (d:= .str (vm true)) rfl <| bS <| vx (c:=l.length) NO rfl (by omega) ho (by omega) (by omega) hF4.IE <| cA (d:=bears true l.length l gs os 1) (aT (ds:=[RW,nI 2]) rfl f2) ⟨_,_,_,rfl,rfl,uq,_,rfl,hF4,by unfold d9;rfl, .bl true,by unfold res;rfl,rfl,rfl⟩
 obtain⟨v,S1,e,rfl,rfl⟩:=key
 unfold xU IX
 simp only[List.map_cons,List.map_nil]
 rw[e]
 rfl
end K19
end
open PySem PySem.W PyProof.Rows
set_option maxRecDepth 100000 in
set_option maxHeartbeats 0 in
theorem PySem.Challenge.cw_bearfaults_k19_whole_one_gate_and_matter_holds : PySem.Challenge.rw_bearfaults_k19_whole_one_gate_and_matter.Holds := by
 w_on;o_law;k_head;(case hw=>w_witness2)
 k_fill
 refine L2.Iw (l:=PySem.Challenge.rw_bearfaults_k19_whole_one_gate_and_matter) (n:=63) (k:=9) (x:=Str.ofString "script") (g:=K19.xU) rfl (by decide) rfl ⟨rfl,by decide,by decide⟩ (fun w h Y=>PySem.W.kIn_of Y) ?F K19.Bv
 case F=>
  intro w mg fa h KX G hmg
  have D_vote_of:L2.Def (L2.fA KX) mg (Str.ofString "vote_of") K19.eP:=by
   dsimp only[L2.fA]
   refine' L2.cy KX G ?a ?l ?c ?k
   (case a=>k_is);(case l=>k_is);(case c=>k_is);(case k=>k_is)
  have D_gate_mask:L2.Def (L2.fA KX) mg (Str.ofString "gate_mask") K19.dh:=by
   dsimp only[L2.fA]
   refine' L2.cy KX G ?a ?l ?c ?k
   (case a=>k_is);(case l=>k_is);(case c=>k_is);(case k=>k_is)
  have D_in_wire_masks:L2.Def (L2.fA KX) mg (Str.ofString "in_wire_masks") K19.cm:=by
   dsimp only[L2.fA]
   refine' L2.cy KX G ?a ?l ?c ?k
   (case a=>k_is);(case l=>k_is);(case c=>k_is);(case k=>k_is)
  have D_masks_at:L2.Def (L2.fA KX) mg (Str.ofString "masks_at") K19.dZ:=by
   dsimp only[L2.fA]
   refine' L2.cy KX G ?a ?l ?c ?k
   (case a=>k_is);(case l=>k_is);(case c=>k_is);(case k=>k_is)
  have D_wire_masks:L2.Def (L2.fA KX) mg (Str.ofString "wire_masks") K19.cT:=by
   dsimp only[L2.fA]
   refine' L2.cy KX G ?a ?l ?c ?k
   (case a=>k_is);(case l=>k_is);(case c=>k_is);(case k=>k_is)
  have D_out_masks:L2.Def (L2.fA KX) mg (Str.ofString "out_masks") K19.dk:=by
   dsimp only[L2.fA]
   refine' L2.cy KX G ?a ?l ?c ?k
   (case a=>k_is);(case l=>k_is);(case c=>k_is);(case k=>k_is)
  have D_run:L2.Def (L2.fA KX) mg (Str.ofString "run") K19.nD:=by
   dsimp only[L2.fA]
   refine' L2.cy KX G ?a ?l ?c ?k
   (case a=>k_is);(case l=>k_is);(case c=>k_is);(case k=>k_is)
  have D_reading:L2.Def (L2.fA KX) mg (Str.ofString "reading") K19.eN:=by
   dsimp only[L2.fA]
   refine' L2.cy KX G ?a ?l ?c ?k
   (case a=>k_is);(case l=>k_is);(case c=>k_is);(case k=>k_is)
  have D_bit_at:L2.Def (L2.fA KX) mg (Str.ofString "bit_at") K19.gx:=by
   dsimp only[L2.fA]
   refine' L2.cy KX G ?a ?l ?c ?k
   (case a=>k_is);(case l=>k_is);(case c=>k_is);(case k=>k_is)
  have D_read_at:L2.Def (L2.fA KX) mg (Str.ofString "read_at") K19.eU:=by
   dsimp only[L2.fA]
   refine' L2.cy KX G ?a ?l ?c ?k
   (case a=>k_is);(case l=>k_is);(case c=>k_is);(case k=>k_is)
  have D_told:L2.Def (L2.fA KX) mg (Str.ofString "told") K19.kg:=by
   dsimp only[L2.fA]
   refine' L2.cy KX G ?a ?l ?c ?k
   (case a=>k_is);(case l=>k_is);(case c=>k_is);(case k=>k_is)
  have D_all_inputs:L2.Def (L2.fA KX) mg (Str.ofString "all_inputs") K19.cV:=by
   dsimp only[L2.fA]
   refine' L2.cy KX G ?a ?l ?c ?k
   (case a=>k_is);(case l=>k_is);(case c=>k_is);(case k=>k_is)
  have D_mask_of:L2.Def (L2.fA KX) mg (Str.ofString "mask_of") K19.eQ:=by
   dsimp only[L2.fA]
   refine' L2.cy KX G ?a ?l ?c ?k
   (case a=>k_is);(case l=>k_is);(case c=>k_is);(case k=>k_is)
  have D_in_mask:L2.Def (L2.fA KX) mg (Str.ofString "in_mask") K19.eX:=by
   dsimp only[L2.fA]
   refine' L2.cy KX G ?a ?l ?c ?k
   (case a=>k_is);(case l=>k_is);(case c=>k_is);(case k=>k_is)
  have D_columns:L2.Def (L2.fA KX) mg (Str.ofString "columns") K19.eV:=by
   dsimp only[L2.fA]
   refine' L2.cy KX G ?a ?l ?c ?k
   (case a=>k_is);(case l=>k_is);(case c=>k_is);(case k=>k_is)
  have D_choices:L2.Def (L2.fA KX) mg (Str.ofString "choices") K19.eW:=by
   dsimp only[L2.fA]
   refine' L2.cy KX G ?a ?l ?c ?k
   (case a=>k_is);(case l=>k_is);(case c=>k_is);(case k=>k_is)
  have D_bears:L2.Def (L2.fA KX) mg (Str.ofString "bears") K19.ie:=by
   dsimp only[L2.fA]
   refine' L2.cy KX G ?a ?l ?c ?k
   (case a=>k_is);(case l=>k_is);(case c=>k_is);(case k=>k_is)
  have D_matters:L2.Def (L2.fA KX) mg (Str.ofString "matters") K19.eO:=by
   dsimp only[L2.fA]
   refine' L2.cy KX G ?a ?l ?c ?k
   (case a=>k_is);(case l=>k_is);(case c=>k_is);(case k=>k_is)
  have D_law_cell_at:L2.Def (L2.fA KX) mg (Str.ofString "_law_cell_at") K19.cI:=by
   dsimp only[L2.fA]
   refine' L2.cy KX G ?a ?l ?c ?k
   (case a=>k_is);(case l=>k_is);(case c=>k_is);(case k=>k_is)
  have D_law_reel:L2.Def (L2.fA KX) mg (Str.ofString "_law_reel") K19.dR:=by
   dsimp only[L2.fA]
   refine' L2.cy KX G ?a ?l ?c ?k
   (case a=>k_is);(case l=>k_is);(case c=>k_is);(case k=>k_is)
  have D_law_take:L2.Def (L2.fA KX) mg (Str.ofString "_law_take") K19.dW:=by
   dsimp only[L2.fA]
   refine' L2.cy KX G ?a ?l ?c ?k
   (case a=>k_is);(case l=>k_is);(case c=>k_is);(case k=>k_is)
  have D_law_names:L2.Def (L2.fA KX) mg (Str.ofString "_law_names") K19.dm:=by
   dsimp only[L2.fA]
   refine' L2.cy KX G ?a ?l ?c ?k
   (case a=>k_is);(case l=>k_is);(case c=>k_is);(case k=>k_is)
  have D_law_gate:L2.Def (L2.fA KX) mg (Str.ofString "_law_gate") K19.dX:=by
   dsimp only[L2.fA]
   refine' L2.cy KX G ?a ?l ?c ?k
   (case a=>k_is);(case l=>k_is);(case c=>k_is);(case k=>k_is)
  have D_law_again:L2.Def (L2.fA KX) mg (Str.ofString "_law_again") K19.dn:=by
   dsimp only[L2.fA]
   refine' L2.cy KX G ?a ?l ?c ?k
   (case a=>k_is);(case l=>k_is);(case c=>k_is);(case k=>k_is)
  have D_law_outs:L2.Def (L2.fA KX) mg (Str.ofString "_law_outs") K19.dQ:=by
   dsimp only[L2.fA]
   refine' L2.cy KX G ?a ?l ?c ?k
   (case a=>k_is);(case l=>k_is);(case c=>k_is);(case k=>k_is)
  have D_law_net:L2.Def (L2.fA KX) mg (Str.ofString "_law_net") K19.eT:=by
   dsimp only[L2.fA]
   refine' L2.cy KX G ?a ?l ?c ?k
   (case a=>k_is);(case l=>k_is);(case c=>k_is);(case k=>k_is)
  have D_law_inputs:L2.Def (L2.fA KX) mg (Str.ofString "_law_inputs") K19.cW:=by
   dsimp only[L2.fA]
   refine' L2.cy KX G ?a ?l ?c ?k
   (case a=>k_is);(case l=>k_is);(case c=>k_is);(case k=>k_is)
  have D_law_kinds_at:L2.Def (L2.fA KX) mg (Str.ofString "_law_kinds_at") K19.cE:=by
   dsimp only[L2.fA]
   refine' L2.cy KX G ?a ?l ?c ?k
   (case a=>k_is);(case l=>k_is);(case c=>k_is);(case k=>k_is)
  have D_law_first:L2.Def (L2.fA KX) mg (Str.ofString "_law_first") K19.dw:=by
   dsimp only[L2.fA]
   refine' L2.cy KX G ?a ?l ?c ?k
   (case a=>k_is);(case l=>k_is);(case c=>k_is);(case k=>k_is)
  have D_law:L2.Def (L2.fA KX) mg (Str.ofString "law") K19.oV:=by
   dsimp only[L2.fA]
   refine' L2.cy KX G ?a ?l ?c ?k
   (case a=>k_is);(case l=>k_is);(case c=>k_is);(case k=>k_is)
  obtain⟨cl,CF⟩:∃cl,K19.Cf (L2.fA KX) mg cl:=by
   dsimp only[L2.fA]
   refine' K19.Ii KX G ?aC0 ?pg0 ?hd0 ?po0 ?sa0 ?mk0 ?kc0 ?n0_net ?n0_many_inputs ?n0_full ?n0_in_masks ?aC1 ?pg1 ?hd1 ?po1 ?sa1 ?mk1 ?kc1 ?n1_bench ?n1_plain ?n1_unsure ?a_Bench___init__ ?i_Bench___init__ ?l_Bench___init__ ?dF ?k_Bench___init__ ?a_Bench_tells ?i_Bench_tells ?l_Bench_tells ?ft ?k_Bench_tells ?a_Bench_readings ?i_Bench_readings ?l_Bench_readings ?dM ?k_Bench_readings ?a_Bench_column ?i_Bench_column ?l_Bench_column ?eI ?k_Bench_column ?a_Trial___init__ ?i_Trial___init__ ?l_Trial___init__ ?dJ ?k_Trial___init__ ?a_Trial_breaks_at ?i_Trial_breaks_at ?l_Trial_breaks_at ?dt ?k_Trial_breaks_at ?a_Bench_inputs_in ?i_Bench_inputs_in ?l_Bench_inputs_in ?dg ?k_Bench_inputs_in
   (case aC0=>k_is)
   (case pg0=>k_is)
   (case hd0=>k_is)
   (case po0=>k_is)
   (case sa0=>k_is)
   (case mk0=>k_is)
   (case kc0=>k_is)
   (case n0_net=>k_is)
   (case n0_many_inputs=>k_is)
   (case n0_full=>k_is)
   (case n0_in_masks=>k_is)
   (case aC1=>k_is)
   (case pg1=>k_is)
   (case hd1=>k_is)
   (case po1=>k_is)
   (case sa1=>k_is)
   (case mk1=>k_is)
   (case kc1=>k_is)
   (case n1_bench=>k_is)
   (case n1_plain=>k_is)
   (case n1_unsure=>k_is)
   (case a_Bench___init__=>k_is)
   (case i_Bench___init__=>k_is)
   (case l_Bench___init__=>k_is)
   (case dF=>k_is)
   (case k_Bench___init__=>k_is)
   (case a_Bench_tells=>k_is)
   (case i_Bench_tells=>k_is)
   (case l_Bench_tells=>k_is)
   (case ft=>k_is)
   (case k_Bench_tells=>k_is)
   (case a_Bench_readings=>k_is)
   (case i_Bench_readings=>k_is)
   (case l_Bench_readings=>k_is)
   (case dM=>k_is)
   (case k_Bench_readings=>k_is)
   (case a_Bench_column=>k_is)
   (case i_Bench_column=>k_is)
   (case l_Bench_column=>k_is)
   (case eI=>k_is)
   (case k_Bench_column=>k_is)
   (case a_Trial___init__=>k_is)
   (case i_Trial___init__=>k_is)
   (case l_Trial___init__=>k_is)
   (case dJ=>k_is)
   (case k_Trial___init__=>k_is)
   (case a_Trial_breaks_at=>k_is)
   (case i_Trial_breaks_at=>k_is)
   (case l_Trial_breaks_at=>k_is)
   (case dt=>k_is)
   (case k_Trial_breaks_at=>k_is)
   (case a_Bench_inputs_in=>k_is)
   (case i_Bench_inputs_in=>k_is)
   (case l_Bench_inputs_in=>k_is)
   (case dg=>k_is)
   (case k_Bench_inputs_in=>k_is)
  have D_Bench___init__:=CF.D_Bench___init__
  have D_Bench_tells:=CF.D_Bench_tells
  have D_Bench_readings:=CF.D_Bench_readings
  have D_Bench_column:=CF.D_Bench_column
  have D_Trial___init__:=CF.D_Trial___init__
  have D_Trial_breaks_at:=CF.D_Trial_breaks_at
  have D_Bench_inputs_in:=CF.D_Bench_inputs_in
  have T:K19.Tp (L2.fA KX) mg cl:=by
   dsimp only[L2.fA]
   refine' ⟨PySem.W.mg_none_of KX G ?z_enumerate,PySem.W.mg_none_of KX G ?z_range,PySem.W.mg_none_of KX G ?z_len,PySem.W.mg_none_of KX G ?z_tuple,PySem.W.mg_none_of KX G ?z_reversed,PySem.W.mg_none_of KX G ?z_zip,PySem.W.mg_none_of KX G ?z_abs,PySem.W.mg_none_of KX G ?z_min,PySem.W.mg_none_of KX G ?z_max,CF.C_Bench,CF.N_Bench_net,CF.N_Bench_many_inputs,CF.N_Bench_full,CF.N_Bench_in_masks,CF.M_Bench,CF.C_Trial,CF.N_Trial_bench,CF.N_Trial_plain,CF.N_Trial_unsure,CF.M_Trial⟩
   (case z_enumerate=>k_is);(case z_range=>k_is);(case z_len=>k_is);(case z_tuple=>k_is);(case z_reversed=>k_is);(case z_zip=>k_is);(case z_abs=>k_is);(case z_min=>k_is);(case z_max=>k_is)
  obtain⟨fl,fd,Fl,hl⟩:=D_law
  have e0:=hmg.symm.trans hl
  cases e0
  refine' ⟨fd,?b,fun base kb nb=>K19.Ge T D_vote_of D_gate_mask D_in_wire_masks D_masks_at D_wire_masks D_out_masks D_run D_reading D_bit_at D_read_at D_told D_all_inputs D_mask_of D_in_mask D_Bench___init__ D_Bench_tells D_Bench_readings D_Bench_column D_columns D_choices D_Trial___init__ D_Trial_breaks_at D_Bench_inputs_in D_bears D_matters D_law_cell_at D_law_reel D_law_take D_law_names D_law_gate D_law_again D_law_outs D_law_net D_law_inputs D_law_kinds_at D_law_first Fl⟩
  obtain⟨_,_,_,_,_,_,_,_,_,e,_,_⟩:=Fl.ex
  subst e
  exact fun s u=> .of_eq rfl
