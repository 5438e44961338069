import PyProof.Rows.All
import Wide.All
import OpenK.AllK
import Wide.FinOn
import Lean
import PyProof.EqAt
import PyProof.EqKinds
import PyProof.TupleCall
import PyProof.Rows.StrJoin2
import PyProof.TupleOfGen
import PyProof.ListRange
import PyProof.Draws
import PyProof.Rows.StrClose3
import KE.KSortedM
import PyProof.Rows.SortWalk
import PyProof.WalkInts
import PyProof.Rows.Range3
import PyProof.ZipIter
import PyProof.ConsumeWalk
import PyProof.Rows.SeqMore
import KE.KRevIter
import KE.KRevSl
import KE.KUnpack
import PySem.Challenge.RW_bearfaults_k26_whole_breaking_by_runs
noncomputable section
set_option bootstrap.genMatcherCode false
def PySem.W.Fast.tw17490058524116069744:=0
def PySem.W.Fast.tw9743757850401667164:=0
def PySem.W.Fast.tw14047390833406689301:=0
def PySem.W.Fast.tw10501235088830904977:=0
def PySem.W.Fast.tw4698200759282206876:=0
def PySem.W.Fast.tw300766565807790884:=0
def PySem.W.Fast.tw10022027884851131401:=0
def PySem.W.Fast.tw15238979608560063924:=0
def PySem.W.Fast.tw16056682605625054297:=0
def PySem.W.Fast.tw16809221298581612595:=0
def PySem.W.Fast.tw11537732459278636755:=0
def PySem.W.Fast.tw4764041025497634535:=0
def PySem.W.Fast.tw12371528153523354981:=0
def PySem.W.Fast.tw13944267384333219802:=0
def PySem.W.Fast.tw3503534344669696443:=0
def PySem.W.Fast.tw2007359827546766968:=0
def PySem.W.Fast.tw616997684222892640:=0
def PySem.W.Fast.tw5527236314572972371:=0
def PySem.W.Fast.tw13729327652130620246:=0
def PySem.W.Fast.tw12157947901481072471:=0
def PySem.W.Fast.tw17348003606197243100:=0
def PySem.W.Fast.tw13270942622819664380:=0
def PySem.W.Fast.tw17975921379577942152:=0
def PySem.W.Fast.tw916718947275698215:=0
def PySem.W.Fast.tw8687320797230519946:=0
def PySem.W.Fast.tw1469348421275100842:=0
def PySem.W.Fast.tw12200203756148298359:=0
def PySem.W.Fast.tw412094491053490796:=0
def PySem.W.Fast.tw6246465512472371180:=0
def PySem.W.Fast.tw2217311752217936222:=0
def PySem.W.Fast.tw11712875332160711142:=0
def PySem.W.Fast.tw7850341031364702496:=0
def PySem.W.Fast.tw10037724478525353285:=0
def PySem.W.Fast.tw10589209887481859953:=0
def PySem.W.Fast.tw3981381981808500468:=0
def PySem.W.Fast.tw7938213508314591129:=0
def PySem.W.Fast.tw13874355248457967856:=0
def PySem.W.Fast.tw14720666755807566308:=0
def PySem.W.Fast.tw1869795112756018947:=0
def PySem.W.Fast.tw10435186702044842249:=0
set_option Elab.async false
set_option linter.all false
set_option maxRecDepth 100000
set_option maxHeartbeats 4000000
section
set_option maxRecDepth 100000
namespace L2
open PySem PySem.Spec PyProof.Rows
noncomputable abbrev Key:=Sum Int Str
noncomputable def rA:Key→Value→Bool
 | .inl k,v=>Value.isInt k v
 | .inr x,v=>Value.isStrOf x v
noncomputable def IV(w:World):Key→Int
 | .inl k=>hashInt k
 | .inr x=>hashStr w x
theorem dj:∀{k:Key} {v:Value},rA k v=true→(∃i t,k=Sum.inl i∧v=Value.int i t)∨(∃x t,k=Sum.inr x∧v=Value.str x t)
 | .inl i,v,h=>by
   obtain⟨t,e⟩:=Value.isInt_shape (k:=i) (v:=v) h
   exact .inl ⟨i,t,rfl,e⟩
 | .inr x,v,h=>by
   obtain⟨t,e⟩:=Value.isStrOf_shape (x:=x) (v:=v) h
   exact .inr ⟨x,t,rfl,e⟩
theorem y3(i:Int)(t:Tok):rA (.inl i) (.int i t)=true:=by simp [rA,Value.isInt]
theorem yw(x:Str)(t:Tok):rA (.inr x) (.str x t)=true:=by simp [rA,Value.isStrOf]
theorem FU(a b:Int):decide ((Sum.inl a:Key)=Sum.inl b)=(a==b):=by
 by_cases e:a=b
 ·subst e;simp
 ·have h:¬(Sum.inl a:Key)=Sum.inl b:=fun q=>e (Sum.inl.inj q)
  rw[decide_eq_false h]
  exact(beq_eq_false_iff_ne.mpr e).symm
theorem Fg(a b:Str):decide ((Sum.inr a:Key)=Sum.inr b)=decide (a=b):=by
 by_cases e:a=b
 ·subst e;simp
 ·have h:¬(Sum.inr a:Key)=Sum.inr b:=fun q=>e (Sum.inr.inj q)
  rw[decide_eq_false h,decide_eq_false e]
theorem Ga(a:Int)(b:Str):decide ((Sum.inl a:Key)=Sum.inr b)=false:=decide_eq_false (fun q=>nomatch q)
theorem Ee(a:Str)(b:Int):decide ((Sum.inr a:Key)=Sum.inl b)=false:=decide_eq_false (fun q=>nomatch q)
noncomputable def df(prog:Program)(w:World):PySem.KeyKind prog w Key where
 is:=rA
 hash:=IV w
 inj:=fun v a b ha hb=>by
  rcases dj ha with⟨i,t,rfl,rfl⟩ | ⟨x,t,rfl,rfl⟩
  ·rcases dj hb with⟨j,u,rfl,e⟩ | ⟨y,u,rfl,e⟩
   ·injection e with e1 _;rw [e1]
   ·exact nomatch e
  ·rcases dj hb with⟨j,u,rfl,e⟩ | ⟨y,u,rfl,e⟩
   ·exact nomatch e
   ·injection e with e1 _;rw [e1]
 byValue:=fun k v h=>by
  rcases dj h with⟨i,t,rfl,rfl⟩ | ⟨x,t,rfl,rfl⟩ <;> rfl
 pyHash:=fun hv h=>by
  rcases dj hv with⟨i,t,rfl,rfl⟩ | ⟨x,t,rfl,rfl⟩
  ·exact wpAny_pyHash_int h
  ·exact wpAny_pyHash_str h
 eqBool:=fun hu hv h=>by
  rcases dj hu with⟨i,t,rfl,rfl⟩ | ⟨x,t,rfl,rfl⟩
  ·rcases dj hv with⟨j,u,rfl,rfl⟩ | ⟨y,u,rfl,rfl⟩
   ·rw[FU] at h;exact wpAny_eqBool_int h
   ·rw[Ga] at h;exact SeqAt.EqAt.int_str i t y u _ _ _ _ h
  ·rcases dj hv with⟨j,u,rfl,rfl⟩ | ⟨y,u,rfl,rfl⟩
   ·rw[Ee] at h;exact SeqAt.EqAt.str_int x t j u _ _ _ _ h
   ·rw[Fg] at h;exact wpAny_eqBool_str h
 «strs»:=fun k x t v h=>by
  rcases dj h with⟨i,u,rfl,e⟩ | ⟨y,u,rfl,e⟩
  ·exact nomatch e
  ·injection e with e1 _
   subst e1
   cases v <;> rfl
theorem uK(prog:Program)(w:World)(i:Int)(t:Tok):(df prog w).is (.inl i) (.int i t)=true:=y3 i t
theorem uQ(prog:Program)(w:World)(x:Str)(t:Tok):(df prog w).is (.inr x) (.str x t)=true:=yw x t
end L2
namespace L2
open PySem PySem.Spec PyProof.Rows
inductive V where
 | cK | bl (b:Bool) | int (i:Int) | str (x:Str) | byt (b:Array UInt8) | flt (b:UInt64) | ref (a:Addr) | ty (n:String)
 deriving DecidableEq
noncomputable def RelV:V→Value→Prop
 | .cK,u=>u=Value.none
 | .bl b,u=>u=Value.bool b
 | .int i,u=>∃t,u=Value.int i t
 | .str x,u=>∃t,u=Value.str x t
 | .byt b,u=>∃t,u=Value.bytes b t
 | .flt b,u=>∃t,u=Value.float b t
 | .ref a,u=>u=Value.ref a
 | .ty n,u=>u=Value.type n
noncomputable abbrev Vals:List V→List Value→Prop:=Paired RelV
theorem Vals.length{xs:List V}{us:List Value}(r:Vals xs us):xs.length=us.length:=Paired.length r
theorem Vals.get:∀{xs:List V} {us:List Value} {i:Nat} {x:V},Vals xs us→xs[i]? =some x→∃u,us[i]? =some u∧RelV x u
 | _,_,_,_, .nil,e=>by simp at e
 | _,_,0,_, .cons r _,e=>by simp at e;subst e;exact⟨_,rfl,r⟩
 | _,_,i+1,x, .cons _ t,e=>by
   obtain⟨u,h1,h2⟩:=Vals.get (i:=i) (x:=x) t (by simpa using e)
   exact⟨u,by simpa using h1,h2⟩
theorem Vals.set{x:V}{u:Value}(r:RelV x u):∀{xs:List V} {us:List Value} (i:Nat),Vals xs us→Vals (xs.set i x) (us.set i u)
 | _,_,_, .nil=> .nil
 | _,_,0, .cons _ t=> .cons r t
 | _,_,i+1, .cons q t=> .cons q (Vals.set r i t)
theorem Vals.append:∀{xs ys:List V} {us ws:List Value},Vals xs us→Vals ys ws→Vals (xs++ys) (us++ws)
 | _,_,_,_, .nil,s=>s
 | _,_,_,_, .cons r t,s=> .cons r (Vals.append t s)
theorem Vals.take:∀{xs:List V} {us:List Value} (n:Nat),Vals xs us→Vals (xs.take n) (us.take n)
 | _,_,0,_=> .nil
 | _,_,_+1, .nil=> .nil
 | _,_,n+1, .cons r t=> .cons r (Vals.take n t)
theorem Vals.drop:∀{xs:List V} {us:List Value} (n:Nat),Vals xs us→Vals (xs.drop n) (us.drop n)
 | _,_,0,r=>r
 | _,_,_+1, .nil=> .nil
 | _,_,n+1, .cons _ t=>Vals.drop n t
noncomputable def mv:Option V→Option Value→Prop
 | some v,some u=>RelV v u
 | none,none=>True
 | _,_=>False
noncomputable def KV{κ:Type}:List (κ × V)→List (κ × Value)→Prop:=Paired fun(p:κ × V) (q:κ × Value)=>p.1=q.1∧RelV p.2 q.2
noncomputable def kV:Key→V
 | .inl i=> .int i
 | .inr x=> .str x
inductive HO where
 | lst (xs:List V)
 | tup (xs:List V)
 | dK (kvs:List (Key × V)) | dT (kvs:List (List Key × V))
 | set (S:Int→Bool) (n:Nat)
 | ins (C dx:Addr) (fs:List (Str × V))
 | own (x:Addr)
 | xd (fs:List (Str × V))
 | met (f x:Addr)
 | rng (lo hi:Int)
 | iE (o:Obj) (u:HO)
 | tbl (ps:Array Value)
 | ext (φ:Heap→Prop)
noncomputable abbrev Hp:=Addr→Option HO
noncomputable def upd(H:Hp)(a:Addr)(o:HO):Hp:=fun b=>if b=a then some o else H b
theorem aQ{H:Hp}{a:Addr}{o:HO}:upd H a o a=some o:=by unfold upd;rw [if_pos rfl]
theorem bc{H:Hp}{a b:Addr}{o:HO}(h:b≠a):upd H a o b=H b:=by unfold upd;rw [if_neg h]
theorem Ct{H:Hp}{a:Addr}{o u:HO}:upd (upd H a o) a u=upd H a u:=by
 funext b;unfold upd;split <;> rfl
theorem cx{H:Hp}{a b:Addr}{o:HO}(h:H a=some o)(h':H b=none):a≠b:=by
 intro e;subst e;rw [h] at h';cases h'
section
variable (P:Program) (w:World)
noncomputable def d5(H:Hp)(h:Heap)(a:Addr):HO→Prop
 | .lst xs=>xs.length≤sizeLine∧∃(its:List Value) (n:Nat),Vals xs its∧h.get? a=some {cls:= .type "list",data:= .seq its.toArray n}
 | .tup xs=>xs.length≤sizeLine∧∃its:List Value,Vals xs its∧IsTup h a its.toArray
 | .dK kvs=>kvs.length≤sizeLine∧(a==sysModules)=false∧∃vs,KV kvs vs∧h.DictOf (df P w) a vs
 | .dT kvs=>kvs.length≤sizeLine∧(a==sysModules)=false∧∃xs:List (List Key × Addr × Value),
    Paired (fun(p:List Key × V) (q:List Key × Addr × Value)=>p.1=q.1∧H q.2.1=some (.tup (p.1.map kV))∧RelV p.2 q.2.2) kvs xs∧
    ∃o es ep,h.get? a=some o∧o.ExactDict∧o.data= .dict es ep∧es.toList=xs.map (entryOfKey (tupleKind (df P w)))∧(xs.map (·.1)).Nodup
 | .set S n=>h.SetOf (intKind P w) a S n
 | .ins C dx fs=>H dx=some (.own a)∧fs.length≤1000∧dx≠a∧h.get? a=some (PySem.W.instObj C dx)∧
    ∃mA,h.Ns1 dx mA∧(∀f,mv (fs.lookup f) (mA f))∧PySem.Within mA (fs.map (·.1))
 | .own _=>∃o,h.get? a=some o
 | .xd fs=>∃mA,h.Ns1 a mA∧∀f,mv (fs.lookup f) (mA f)
 | .rng lo hi=>∃t u v,h.get? a=some {cls:= .type "range",data:= .fields #[.int lo t, .int hi u, .int 1 v]}
 | .iE o u=>h.get? a=some o∧d5 H h a u
 | .tbl ps=>h.get? a=some {cls:= .none,data:= .fields ps}
 | .met f x=>h.get? a=some (PySem.W.methodObj (.ref f) (.ref x))
 | .ext φ=>φ h∧(∃o,h.get? a=some o)∧∀h1 h2:Heap,φ h1→(∀o,h1.get? a=some o→h2.get? a=some o)→φ h2
noncomputable def k3(H:Hp)(h:Heap):Prop:=∀a o,H a=some o→d5 P w H h a o
end
section
variable {P:Program} {w:World} {H H':Hp} {h h':Heap} {a:Addr} {o:HO}
theorem d5.lt(x:d5 P w H h a o):a < h.objs.size:=by
 cases o with
 | lst xs=>obtain⟨_,_,_,_,e⟩:=x;exact Heap.lt_size e
 | tup xs=>obtain⟨_,_,_,p⟩:=x;exact p.lt
 | dK kvs=>obtain⟨_,_,_,_,o,_,_,e,_⟩:=x;exact Heap.lt_size e
 | dT kvs=>obtain⟨_,_,_,_,o,_,_,e,_⟩:=x;exact Heap.lt_size e
 | set S n=>obtain⟨o,_,_,_,e,_⟩:=x;exact Heap.lt_size e
 | ins C dx fs=>obtain⟨_,_,_,e,_⟩:=x;exact Heap.lt_size e
 | own y=>obtain⟨_,e⟩:=x;exact Heap.lt_size e
 | xd fs=>obtain⟨_,⟨_,_,_,e,_⟩,_⟩:=x;exact Heap.lt_size e
 | rng lo hi=>obtain⟨_,_,_,e⟩:=x;exact Heap.lt_size e
 | iE ob u=>obtain⟨e,_⟩:=x;exact Heap.lt_size e
 | tbl ps=>exact Heap.lt_size (show h.get? a=some _ from x)
 | met f y=>exact Heap.lt_size (show h.get? a=some _ from x)
 | ext φ=>obtain⟨_,⟨_,e⟩,_⟩:=x;exact Heap.lt_size e
theorem Paired.HK{α β:Type}{F G:α→β→Prop}:∀{l₁:List α} {l₂:List β},Paired F l₁ l₂→(∀a b,F a b→G a b)→Paired G l₁ l₂
 | _,_, .nil,_=> .nil
 | _,_, .cons r t,f=> .cons (f _ _ r) (Paired.HK t f)
theorem d5.sH(x:d5 P w H h a o)(k:∀b u,(b=a∨H b=some (.own a))→h.get? b=some u→h'.get? b=some u)
 (ho:∀b,H b=some (.own a)→H' b=some (.own a)) (ht:∀b xs,H b=some (.tup xs)→H' b=some (.tup xs)):d5 P w H' h' a o:=by
 induction o with
 | lst xs=>obtain⟨z,its,n,r,e⟩:=x;exact⟨z,its,n,r,k _ _ (.inl rfl) e⟩
 | tup xs=>obtain⟨z,its,r,ob,e,c⟩:=x;exact⟨z,its,r,ob,k _ _ (.inl rfl) e,c⟩
 | dK kvs=>obtain⟨z,y,vs,r,ob,es,ep,e,c⟩:=x;exact⟨z,y,vs,r,ob,es,ep,k _ _ (.inl rfl) e,c⟩
 | dT kvs=>
   obtain⟨z,y,xs,r,ob,es,ep,e,c⟩:=x
   exact⟨z,y,xs,Paired.HK r fun p q z=>⟨z.1,ht _ _ z.2.1,z.2.2⟩,ob,es,ep,k _ _ (.inl rfl) e,c⟩
 | set S n=>obtain⟨ob,es,ep,t,e,c⟩:=x;exact⟨ob,es,ep,t,k _ _ (.inl rfl) e,c⟩
 | ins C dx fs=>
   obtain⟨d,z,ne,e,mA,⟨od,es,ep,e2,c⟩,r⟩:=x
   exact⟨ho _ d,z,ne,k _ _ (.inl rfl) e,mA,⟨od,es,ep,k _ _ (.inr d) e2,c⟩,r⟩
 | own y=>obtain⟨ob,e⟩:=x;exact⟨ob,k _ _ (.inl rfl) e⟩
 | xd fs=>obtain⟨mA,⟨od,es,ep,e,c⟩,r⟩:=x;exact⟨mA,⟨od,es,ep,k _ _ (.inl rfl) e,c⟩,r⟩
 | rng lo hi=>obtain⟨t,u,v,e⟩:=x;exact⟨t,u,v,k _ _ (.inl rfl) e⟩
 | iE ob u ih=>obtain⟨e,q⟩:=x;exact⟨k _ _ (.inl rfl) e,ih q⟩
 | tbl ps=>
   have e:h.get? a=some {cls:= .none,data:= .fields ps}:=x
   show h'.get? a=some {cls:= .none,data:= .fields ps}
   exact k a _ (.inl rfl) e
 | met f y=>
   have e:h.get? a=some (PySem.W.methodObj (.ref f) (.ref y)):=x
   show h'.get? a=some (PySem.W.methodObj (.ref f) (.ref y))
   exact k a _ (.inl rfl) e
 | ext φ=>obtain⟨p,⟨o,e⟩,st⟩:=x;exact⟨st _ _ p fun o q=>k _ _ (.inl rfl) q,⟨o,k _ _ (.inl rfl) e⟩,st⟩
theorem k3.lt(x:k3 P w H h)(e:H a=some o):a < h.objs.size:=(x a o e).lt
theorem k3.fresh(x:k3 P w H h)(e:h.objs.size≤a):H a=none:=by
 cases q:H a with
 | none=>rfl
 | some u=>exact absurd (Nat.lt_of_lt_of_le (x.lt q) e) (Nat.lt_irrefl _)
theorem k3.kept(x:k3 P w H h)(k:∀b u,h.get? b=some u→h'.get? b=some u):k3 P w H h':=fun a o e=>
 (x a o e).sH (fun b u _ q=>k b u q) (fun _ q=>q) fun _ _ q=>q
theorem k3.laid(x:k3 P w H h)(k:∀b u,h.get? b=some u→h'.get? b=some u)(hp:h.objs.size≤a)(new:d5 P w (upd H a o) h' a o):k3 P w (upd H a o) h':=fun b u e=>by
 have hn:=x.fresh hp
 by_cases hb:b=a
 ·subst hb;rw [aQ] at e;cases e;exact new
 ·rw[bc hb] at e
  exact(x b u e).sH (fun c v _ q=>k c v q) (fun c q=>by rw[bc (cx q hn)];exact q) fun c xs q=>by rw[bc (cx q hn)];exact q
end
noncomputable def Rd(H:Hp)(a:Addr)(u:HO):Prop:=H a=some u∨∃o,H a=some (.iE o u)
theorem Rd.of{H:Hp}{a:Addr}{u:HO}(h:H a=some u):Rd H a u:= .inl h
theorem Rd.ok{P:Program}{w:World}{H:Hp}{h:Heap}{a:Addr}{u:HO}(r:Rd H a u)(x:k3 P w H h):d5 P w H h a u:=by
 rcases r with r | ⟨o,r⟩
 ·exact x a u r
 ·obtain⟨_,q⟩:=x a _ r
  exact q
noncomputable def Hq:Option HO→Prop
 | some (.lst _)=>True
 | some (.dK _)=>True
 | some (.dT _)=>True
 | some (.set _ _)=>True
 | some (.ins _ _ _)=>True
 | some (.ext _)=>True
 | _=>False
section
variable {P:Program} {w:World} {H:Hp} {h h':Heap} {x e:Addr} {o':HO}
theorem k3.write(ok:k3 P w H h)(mu:Hq (H x))(he:e=x∨H e=some (.own x))(k:∀b u,b≠e→h.get? b=some u→h'.get? b=some u)(heo:∃u,h'.get? e=some u)
 (new:d5 P w (upd H x o') h' x o'):k3 P w (upd H x o') h':=fun b u q=>by
 have nown:∀c y,H c=some (.own y)→c≠x:=fun c y r z=>by subst z;rw [r] at mu;exact mu
 have ntup:∀c xs,H c=some (.tup xs)→c≠x:=fun c xs r z=>by subst z;rw [r] at mu;exact mu
 by_cases hb:b=x
 ·subst hb;rw [aQ] at q;cases q;exact new
 ·rw[bc hb] at q
  by_cases hbe:b=e
  ·have q':H b=some (.own x):=by
    rcases he with z | z
    ·exact absurd (hbe.trans z) hb
    ·rw[hbe];exact z
   rw[q] at q';cases q'
   obtain⟨v,hv⟩:=heo
   exact⟨v,by rw[hbe];exact hv⟩
  ·refine(ok b u q).sH (fun c v hc r=>k c v ?_ r) (fun c r=>by rw[bc (nown c b r)];exact r) fun c xs r=>by rw[bc (ntup c xs r)];exact r
   rcases hc with rfl | hc
   ·exact hbe
   ·rintro rfl
    rcases he with z | z
    ·exact nown c b hc z
    ·rw[hc] at z;cases z;exact hb rfl
end
structure Un (fs ex:List Addr) (H H':Hp) (h h':Heap):Prop where
 keep:∀b o,h.get? b=some o→H b=none→b ∉ fs→b ∉ ex→h'.get? b=some o
 slot:∀b o,h.get? b=some o→H b=none→b∈fs→b ∉ ex→∃sl,h'.get? b=some {o with slots:=sl}
 free:∀b o,h.get? b=some o→H b=none→b ∉ ex→H' b=none
 there:∀b o,h.get? b=some o→b ∉ ex→∃o',h'.get? b=some o'
 tups:∀b xs,H b=some (.tup xs)→H' b=some (.tup xs)
 frzs:∀b o u,H b=some (.iE o u)→H' b=some (.iE o u)
 tbls:∀b ps,H b=some (.tbl ps)→∃more,H' b=some (.tbl (ps++more))
section
variable {fs fs' ex ex':List Addr} {H H1 H2:Hp} {h h1 h2 h':Heap} {a x e:Addr} {o:HO}
theorem Un.any(u:Un fs ex H H1 h h1){b:Addr}{ob:Obj}(q:h.get? b=some ob)(n:H b=none)(hx:b ∉ ex):∃sl,h1.get? b=some {ob with slots:=sl}:=by
 by_cases hb:b∈fs
 ·exact u.slot b ob q n hb hx
 ·exact⟨ob.slots,u.keep b ob q n hb hx⟩
theorem Un.kept(k:∀b u,h.get? b=some u→h'.get? b=some u):Un fs ex H H h h':=
 ⟨fun b ob q _ _ _=>k b ob q,fun b ob q _ _ _=>⟨ob.slots,k b ob q⟩,fun _ _ _ n _=>n,fun b ob q _=>⟨ob,k b ob q⟩,fun _ _ q=>q,fun _ _ _ q=>q,fun _ ps q=>⟨#[],by rw[q];simp⟩⟩
theorem Un.refl:Un fs ex H H h h:=Un.kept fun _ _ q=>q
theorem Un.laid(k:∀b u,h.get? b=some u→h'.get? b=some u)(hp:h.objs.size≤a)(hn:H a=none):Un fs ex H (upd H a o) h h' where
 keep:=fun b u q _ _ _=>k b u q
 slot:=fun b u q _ _ _=>⟨u.slots,k b u q⟩
 free:=fun b u q n _=>by rw[bc (Nat.ne_of_lt (Nat.lt_of_lt_of_le (Heap.lt_size q) hp))];exact n
 there:=fun b u q _=>⟨u,k b u q⟩
 tups:=fun b xs q=>by rw[bc (cx q hn)];exact q
 frzs:=fun b u xs q=>by rw[bc (cx q hn)];exact q
 tbls:=fun b ps q=>⟨#[],by rw[bc (cx q hn),q];simp⟩
theorem Un.write(mu:Hq (H x))(he:e=x∨H e=some (.own x))(k:∀b u,b≠e→h.get? b=some u→h'.get? b=some u)(heo:∃u,h'.get? e=some u):Un fs ex H (upd H x o) h h':=by
 have hx:∀b,H b=none→b≠x:=fun b n z=>by subst z;rw [n] at mu;exact mu
 have hb:∀b,H b=none→b≠e:=fun b n z=>by
  subst z
  rcases he with r | r
  ·exact hx b n r
  ·rw[n] at r;cases r
 have hm:∀b u,H b=some u→¬Hq (some u)→b≠x:=fun b u q nm z=>by subst z;rw [q] at mu;exact nm mu
 refine⟨fun b u q n _ _=>k b u (hb b n) q,fun b u q n _ _=>⟨u.slots,k b u (hb b n) q⟩,fun b u q n _=>by rw[bc (hx b n)];exact n,fun b u q _=>?_,
  fun b xs q=>by rw[bc (hm b _ q fun z=>z)];exact q,fun b u xs q=>by rw[bc (hm b _ q fun z=>z)];exact q,fun b ps q=>⟨#[],by rw[bc (hm b _ q fun z=>z),q];simp⟩⟩
 by_cases hbe:b=e
 ·subst hbe;exact heo
 ·exact⟨u,k b u hbe q⟩
end
noncomputable def HL(h:Heap)(H:Hp):List Addr:=(List.range h.objs.size).filter fun a=>(H a).isSome
noncomputable def rR(h:Heap)(H:Hp):Heap:=PySem.W.hideAll h (HL h H)
theorem zc(h:Heap)(H:Hp):(rR h H).objs.size=h.objs.size:=PySem.W.hideAll_size _ _
theorem zF{h:Heap}{H:Hp}{b:Addr}{o:Obj}(e:h.get? b=some o)(n:H b=none):(rR h H).get? b=some o:=
 PySem.W.hideAll_get _ e fun hm=>by
  have q:(H b).isSome=true:=(List.mem_filter.mp hm).2
  rw[n] at q;simp at q
theorem Cj{h:Heap}{H:Hp}{b:Addr}{o:Obj}(e:(rR h H).get? b=some o):h.get? b=some o∧H b=none:=by
 have e':h.get? b=some o:=PySem.W.of_hideAll (HL h H) e
 refine⟨e',?_⟩
 cases q:H b with
 | none=>rfl
 | some x=>
   have hm:b∈HL h H:=List.mem_filter.mpr ⟨List.mem_range.mpr (Heap.lt_size e'),by simp [q]⟩
   have z:(rR h H).get? b=none:=PySem.W.hideAll_none (HL h H) hm
   rw[z] at e;cases e
noncomputable def C8(g h:Heap)(L:Addr):List (Addr × Obj):=(List.range h.objs.size).filterMap fun a=>if a=L∨(g.get? a).isSome=true then none else(h.get? a).map fun o=>(a,o)
noncomputable def rest(g h:Heap)(L d:Addr):List (Addr × Obj):=(C8 g h L).filter fun p=>decide (p.1≠d)
end L2
namespace L2
open PySem PySem.Spec PyProof.Rows
structure Mod (K:PySem.W.Frag) (mg:Str→Option Value) (base:Heap):Prop where
 kin:K.In base
 glob:base.Ns mainGlobals mg
 blt:∃mb,base.Ns builtinsNs mb∧∀x:Str,x≠"__name__"→mb x=bootBuiltins x
 nolimit:base.NoLimit
structure Cx where
 prog:Program
 w:World
 K:PySem.W.Frag
 mg:Str→Option Value
 base:Heap
 A:Around
 N:List Str
 s₀:Shared
 H₀:Hp
 env:Env
 outer:List Env
 stack:List Env
 ex:List Addr
 fn:Str→Bool
 calm:Bool
 pn:List (Addr × Obj)
 xe:Value→Shared→Prop
noncomputable def zm(l:List Env):List Addr:=l.filterMap (·.frame)
noncomputable abbrev Cx.fs(X:Cx):List Addr:=zm X.outer
noncomputable def BM(sc:Scope)(x:Str):Prop:=sc.names.lookup x=some .local∨sc.names.lookup x=some .cell∨sc.names.lookup x=some .free
noncomputable def Loc(sc:Scope)(x:Str):Prop:=sc.names.lookup x=some .local∨sc.names.lookup x=some .cell
noncomputable def Look(env:Env)(h:Heap)(m:Str→Option Value)(x:Str)(u:Value):Prop:=
 (env.kindOf x=some .local∧m x=some u)∨((env.kindOf x=some .cell∨env.kindOf x=some .free)∧∃c,env.cells.lookup x=some c∧h.IsCell c (some u))
structure Cx.Ok (X:Cx):Prop where
 mod:Mod X.K X.mg X.base
 kind:X.env.scope.kind= .function
 glob:X.env.globals=mainGlobals
 blt:X.env.builtins=builtinsNs
 above:X.s₀.heap.objs.size≤X.env.locals
 inj:∀x y c,X.env.cells.lookup x=some c→X.env.cells.lookup y=some c→x=y
 has:∀x,(X.env.kindOf x=some .cell∨X.env.kindOf x=some .free)→∃c,X.env.cells.lookup x=some c
 cab:∀x c,X.fn x=true→X.env.cells.lookup x=some c→X.s₀.heap.objs.size≤c
 hd:X.calm=true→X.A.handled=none
 frames:X.A.frames=some X.stack
 stk:X.stack=X.outer∨(X.stack=X.env ::X.outer∧X.env.frame=some X.env.locals)
 exf:∀b∈X.ex,b≠X.env.locals∧∀x c,X.env.cells.lookup x=some c→c≠b
 bs:∀b o,X.base.get? b=some o→X.s₀.heap.get? b=some o∧X.H₀ b=none
 bsz:X.base.objs.size≤X.s₀.heap.objs.size
 noex:∀b o,X.base.get? b=some o→b ∉ X.ex
 exfs:∀b∈X.ex,b ∉ X.fs
 oa:X.s₀.heap.FunFrames X.base X.outer
 frf:∀b∈X.fs,X.H₀ b=none
structure Inv (X:Cx) (pins:List (Addr × Obj)) (σ:List (Option V)) (H:Hp) (s:Shared):Prop where
 ok:X.Ok
 os:s.os=X.s₀.os
 bare:AllBare s.gens
 base:Un X.fs X.ex X.H₀ H X.s₀.heap s.heap
 loc:∃m,s.heap.Ns X.env.locals m∧∀(i:Nat) (x:Str) (v:V),X.N[i]? =some x→σ[i]? =some (some v)→BM X.env.scope x→∃u,RelV v u∧Look X.env s.heap m x u
 cell:∀x c,X.env.cells.lookup x=some c→∃v,s.heap.IsCell c v
 free:H X.env.locals=none
 freeC:∀x c,X.env.cells.lookup x=some c→H c=none
 pin:∀p∈X.pn++pins,s.heap.get? p.1=some p.2∧H p.1=none∧p.1≠X.env.locals∧p.1 ∉ X.fs∧∀v,p.2.data≠ .cell v
 hok:k3 X.prog X.w H s.heap
 len:σ.length=X.N.length
section
variable {X:Cx} {pins:List (Addr × Obj)} {σ:List (Option V)} {H H':Hp} {s:Shared} {h':Heap}
theorem Cx.Ok.IA(ok:X.Ok){b:Addr}{o:Obj}(e:X.base.get? b=some o):b ∉ X.fs:=fun hb=>by
 have:=(ok.oa.mem hb).1
 rw[e] at this;cases this
theorem Inv.bs(I:Inv X pins σ H s):∀b o,X.base.get? b=some o→s.heap.get? b=some o∧H b=none:=fun b o e=>
 ⟨I.base.keep b o (I.ok.bs b o e).1 (I.ok.bs b o e).2 (I.ok.IA e) (I.ok.noex b o e),I.base.free b o (I.ok.bs b o e).1 (I.ok.bs b o e).2 (I.ok.noex b o e)⟩
theorem Inv.bk(I:Inv X pins σ H s):∀b o,X.base.get? b=some o→s.heap.get? b=some o:=fun b o e=>(I.bs b o e).1
theorem Inv.mod(I:Inv X pins σ H s):Mod X.K X.mg X.base:=I.ok.mod
theorem Inv.xt(I:Inv X pins σ H s):X.K.In s.heap:=I.ok.mod.kin.keeps I.bk
theorem Inv.lt(I:Inv X pins σ H s):X.env.locals < s.heap.objs.size:=let⟨_,hn,_⟩:=I.loc;hn.lt
theorem Inv.sz(I:Inv X pins σ H s):X.s₀.heap.objs.size≤s.heap.objs.size:=Nat.le_trans I.ok.above (Nat.le_of_lt I.lt)
theorem Inv.Jb(I:Inv X pins σ H s){a:Addr}(h:s.heap.objs.size≤a):a ∉ X.fs:=fun hb=>by
 obtain⟨_,o,ho,_⟩:=I.ok.oa.mem hb
 exact absurd (Nat.lt_of_lt_of_le (Heap.lt_size ho) (Nat.le_trans I.sz h)) (Nat.lt_irrefl _)
theorem Inv.Ei(I:Inv X pins σ H s):∀x c,X.env.cells.lookup x=some c→c≠X.env.locals:=fun x c e z=>by
 obtain⟨v,o,ho,hd⟩:=I.cell x c e
 obtain⟨m,⟨o',es,ep,ho',hd',_⟩,_⟩:=I.loc
 rw[z,ho'] at ho;cases ho;rw [hd'] at hd;cases hd
theorem Inv.oa(I:Inv X pins σ H s):s.heap.FunFrames X.base X.outer:=by
 have all:∀(l:List Env),(∀b∈zm l,b∈X.fs)→X.s₀.heap.FunFrames X.base l→s.heap.FunFrames X.base l:=by
  intro l
  induction l with
  | nil=>intro _ _;trivial
  | cons env r ih=>
    intro hs hl
    obtain⟨hk,⟨L,o,hf,hn,ho,hd⟩,hr⟩:=hl
    have hL:L∈X.fs:=hs L (by unfold zm;rw [List.filterMap_cons,hf];exact List.mem_cons_self)
    obtain⟨sl,e⟩:=I.base.slot L o ho (I.ok.frf L hL) hL fun z=>I.ok.exfs L z hL
    exact⟨hk,⟨L,_,hf,hn,e,hd⟩,ih (fun b hb=>hs b (by unfold zm;rw [List.filterMap_cons,hf];exact List.mem_cons_of_mem _ hb)) hr⟩
 exact all X.outer (fun _ hb=>hb) I.ok.oa
theorem Inv.stack(I:Inv X pins σ H s):s.heap.FunFrames X.base X.stack:=by
 rcases I.ok.stk with e | ⟨e,hf⟩
 ·rw[e];exact I.oa
 ·rw[e]
  obtain⟨m,hn,_⟩:=I.loc
  refine .cons (by rw[I.ok.kind];decide) hf hn ?_ I.oa
  exact Heap.get?_none_of_le (Nat.le_trans I.ok.bsz I.ok.above)
theorem Inv.wq(I:Inv X pins σ H s):∀b∈zm X.stack,b∈X.env.locals ::X.fs:=fun b hb=>by
 rcases I.ok.stk with e | ⟨e,hf⟩
 ·rw[e] at hb;exact List.mem_cons_of_mem _ hb
 ·rw[e] at hb
  unfold zm at hb
  rw[List.filterMap_cons,hf] at hb
  exact hb
theorem Inv.x5(I:Inv X pins σ H s):∀b∈zm X.stack,H b=none:=fun b hb=>by
 rcases List.mem_cons.mp (I.wq b hb) with e | hb
 ·rw[e];exact I.free
 ·obtain⟨_,o,ho,_⟩:=I.ok.oa.mem hb
  exact I.base.free b o ho (I.ok.frf b hb) fun z=>I.ok.exfs b z hb
theorem Inv.step{g':Array GenState}{t':Nat}{d':Drawn}{ch:List Addr}(I:Inv X pins σ H s)
 (hch:∀b∈ch,(b∈X.ex∨X.s₀.heap.objs.size≤b)∧b≠X.env.locals∧(∀x c,X.env.cells.lookup x=some c→c≠b)∧∀p∈X.pn++pins,p.1≠b)
 (keep:∀b o,b≠X.env.locals→b ∉ X.fs→b ∉ ch→s.heap.get? b=some o→H b=none→h'.get? b=some o)
 (slot:∀b o,b≠X.env.locals→b∈X.fs→b ∉ ch→s.heap.get? b=some o→H b=none→∃sl,h'.get? b=some {o with slots:=sl}) (free:∀b o,b ∉ ch→s.heap.get? b=some o→H b=none→H' b=none)
 (there:∀b o,b ∉ ch→s.heap.get? b=some o→∃o',h'.get? b=some o')
 (tups:∀b xs,H b=some (.tup xs)→H' b=some (.tup xs)) (frzs:∀b o u,H b=some (.iE o u)→H' b=some (.iE o u)) (tbls:∀b ps,H b=some (.tbl ps)→∃more,H' b=some (.tbl (ps++more)))
 (ns:∀m,s.heap.Ns X.env.locals m→h'.Ns X.env.locals m) (hok:k3 X.prog X.w H' h') (hg:AllBare g') :
 Inv X pins σ H' {s with heap:=h',gens:=g',drawn:=d',toks:=t'}:=by
 have neL:∀b o,X.s₀.heap.get? b=some o→b≠X.env.locals:=fun b o e=>Nat.ne_of_lt (Nat.lt_of_lt_of_le (Heap.lt_size e) I.ok.above)
 have neC:∀b o,X.s₀.heap.get? b=some o→b ∉ X.ex→b ∉ ch:=fun b o e hx hb=>by
  rcases(hch b hb).1 with z | z
  ·exact hx z
  ·exact absurd (Nat.lt_of_lt_of_le (Heap.lt_size e) z) (Nat.lt_irrefl _)
 have cellK:∀x c,X.env.cells.lookup x=some c→∀v,s.heap.IsCell c v→h'.IsCell c v:=fun x c e v ⟨o,ho,hd⟩=>by
  have nch:c ∉ ch:=fun z=>(hch c z).2.2.1 x c e rfl
  by_cases hc:c∈X.fs
  ·obtain⟨sl,q⟩:=slot c o (I.Ei x c e) hc nch ho (I.freeC x c e)
   exact⟨_,q,hd⟩
  ·exact⟨o,keep c o (I.Ei x c e) hc nch ho (I.freeC x c e),hd⟩
 refine⟨I.ok,I.os,hg,⟨fun b o e n hb hx=>?_,fun b o e n hb hx=>?_,fun b o e n hx=>?_,fun b o e hx=>?_,fun b xs e=>tups b xs (I.base.tups b xs e),fun b o xs e=>frzs b o xs (I.base.frzs b o xs e),fun b ps e=>?_⟩,?_,fun x c e=>?_,?_,fun x c e=>?_,fun p hp=>?_,hok,I.len⟩
 ·exact keep b o (neL b o e) hb (neC b o e hx) (I.base.keep b o e n hb hx) (I.base.free b o e n hx)
 ·obtain⟨sl,e1⟩:=I.base.slot b o e n hb hx
  obtain⟨sl',e2⟩:=slot b _ (neL b o e) hb (neC b o e hx) e1 (I.base.free b o e n hx)
  exact⟨sl',e2⟩
 ·obtain⟨o',e1⟩:=I.base.there b o e hx
  exact free b o' (neC b o e hx) e1 (I.base.free b o e n hx)
 ·obtain⟨o',e1⟩:=I.base.there b o e hx
  exact there b o' (neC b o e hx) e1
 ·obtain⟨m1,e1⟩:=I.base.tbls b ps e
  obtain⟨m2,e2⟩:=tbls b _ e1
  exact⟨m1++m2,by rw[e2,Array.append_assoc]⟩
 ·obtain⟨m,hn,hl⟩:=I.loc
  refine⟨m,ns m hn,fun i x v e1 e2 e3=>?_⟩
  obtain⟨u,r,l⟩:=hl i x v e1 e2 e3
  refine⟨u,r,?_⟩
  rcases l with l | ⟨k,c,e,z⟩
  ·exact .inl l
  ·exact .inr ⟨k,c,e,cellK x c e _ z⟩
 ·obtain⟨v,z⟩:=I.cell x c e
  exact⟨v,cellK x c e v z⟩
 ·obtain⟨m,⟨o,_,_,ho,_⟩,_⟩:=I.loc
  exact free _ o (fun z=>(hch _ z).2.1 rfl) ho I.free
 ·obtain⟨v,o,ho,hd⟩:=I.cell x c e
  exact free c o (fun z=>(hch c z).2.2.1 x c e rfl) ho (I.freeC x c e)
 ·obtain⟨e,n,ne,nf,d⟩:=I.pin p hp
  have nch:p.1 ∉ ch:=fun z=>(hch p.1 z).2.2.2 p hp rfl
  exact⟨keep p.1 p.2 ne nf nch e n,free p.1 p.2 nch e n,ne,nf,d⟩
theorem Inv.un{t':Nat}(I:Inv X pins σ H s)(u:Un X.fs [] H H' s.heap h')(hok:k3 X.prog X.w H' h'):Inv X pins σ H' {s with heap:=h',toks:=t'}:=by
 obtain⟨m,⟨o,es,ep,ho,r⟩,_⟩:=id I.loc
 obtain⟨sl,hL⟩:=u.any ho I.free (by simp)
 exact I.step (g':=s.gens) (d':=s.drawn) (ch:=[]) (fun _ z=>nomatch z) (fun b o _ hb _ e n=>u.keep b o e n hb (by simp)) (fun b o _ hb _ e n=>u.slot b o e n hb (by simp)) (fun b o _ e n=>u.free b o e n (by simp)) (fun b o _ e=>u.there b o e (by simp)) u.tups u.frzs u.tbls (fun m' hm=>by
  obtain⟨o',es',ep',ho',r'⟩:=hm
  rw[ho] at ho';cases ho'
  exact⟨_,es',ep',hL,r'⟩) hok I.bare
theorem Inv.call{g':Array GenState}{t':Nat}{d':Drawn}{ch:List Addr}(I:Inv X pins σ H s)(u:Un (zm X.stack) ch H H' s.heap h')(hok:k3 X.prog X.w H' h')(hg:AllBare g')
 (hch:∀b∈ch,(b∈X.ex∨X.s₀.heap.objs.size≤b)∧b≠X.env.locals∧(∀x c,X.env.cells.lookup x=some c→c≠b)∧∀p∈X.pn++pins,p.1≠b) :
 Inv X pins σ H' {s with heap:=h',gens:=g',drawn:=d',toks:=t'}:=by
 obtain⟨m,⟨o,es,ep,ho,r⟩,_⟩:=id I.loc
 obtain⟨sl,hL⟩:=u.any ho I.free fun z=>(hch _ z).2.1 rfl
 exact I.step (ch:=ch) hch (fun b o hL hb hc e n=>u.keep b o e n (fun z=>(List.mem_cons.mp (I.wq b z)).elim hL hb) hc) (fun b o _ _ hc e n=>u.any e n hc) (fun b o hc e n=>u.free b o e n hc) (fun b o hc e=>u.there b o e hc) u.tups u.frzs u.tbls (fun m' hm=>by
  obtain⟨o',es',ep',ho',r'⟩:=hm
  rw[ho] at ho';cases ho'
  exact⟨_,es',ep',hL,r'⟩) hok hg
theorem Inv.turned{t':Nat}{it:Addr}(I:Inv X pins σ H s)(k:∀b o,b≠it→s.heap.get? b=some o→h'.get? b=some o)(hn:H it=none)(hL:it≠X.env.locals)
 (h1:it∈X.ex∨X.s₀.heap.objs.size≤it) (h2:∀x c,X.env.cells.lookup x=some c→c≠it) (h3:∀p∈X.pn++pins,p.1≠it):Inv X pins σ H {s with heap:=h',toks:=t'}:=by
 have nit:∀b u,H b=some u→b≠it:=fun b u e z=>by rw[z,hn] at e;cases e
 refine I.step (g':=s.gens) (d':=s.drawn) (ch:=[it]) (fun b hb=>?_) (fun b o _ _ hc e _=>k b o (fun z=>hc (by simp [z])) e) (fun b o _ _ hc e _=>⟨o.slots,k b o (fun z=>hc (by simp [z])) e⟩) (fun _ _ _ _ n=>n)
  (fun b o hc e=>⟨o,k b o (fun z=>hc (by simp [z])) e⟩) (fun _ _ e=>e) (fun _ _ _ e=>e) (fun b ps e=>⟨#[],by rw[e];simp⟩) (fun m hm=>?_) (fun b u e=>?_) I.bare
 ·have e:b=it:=by simpa using hb
  subst e
  exact⟨h1,hL,h2,h3⟩
 ·obtain⟨o,es,ep,ho,r⟩:=hm
  exact⟨o,es,ep,k _ o (Ne.symm hL) ho,r⟩
 ·refine(I.hok b u e).sH (fun c v hc q=>k c v ?_ q) (fun _ q=>q) fun _ _ q=>q
  rcases hc with z | z
  ·rw[z];exact nit b u e
  ·exact nit c _ z
theorem Inv.tok(I:Inv X pins σ H s)(t:Nat):Inv X pins σ H {s with toks:=t}:=I.un (h':=s.heap) (t':=t) Un.refl I.hok
theorem Inv.kept{t':Nat}(I:Inv X pins σ H s)(k:∀b u,s.heap.get? b=some u→h'.get? b=some u):Inv X pins σ H {s with heap:=h',toks:=t'}:=I.un (Un.kept k) (I.hok.kept k)
theorem Inv.laid{a:Addr}{o:HO}{t':Nat}(I:Inv X pins σ H s)(k:∀b u,s.heap.get? b=some u→h'.get? b=some u)(hp:s.heap.objs.size≤a)(new:d5 X.prog X.w (upd H a o) h' a o) :
 Inv X pins σ (upd H a o) {s with heap:=h',toks:=t'}:=I.un (Un.laid k hp (I.hok.fresh hp)) (I.hok.laid k hp new)
theorem Inv.write{x e:Addr}{o:HO}{t':Nat}(I:Inv X pins σ H s)(mu:Hq (H x))(he:e=x∨H e=some (.own x))(k:∀b u,b≠e→s.heap.get? b=some u→h'.get? b=some u)(heo:∃u,h'.get? e=some u)
 (new:d5 X.prog X.w (upd H x o) h' x o):Inv X pins σ (upd H x o) {s with heap:=h',toks:=t'}:=I.un (Un.write mu he k heo) (I.hok.write mu he k heo new)
theorem Inv.x3{pins':List (Addr × Obj)}(I:Inv X pins σ H s)(h:∀p∈pins',s.heap.get? p.1=some p.2∧H p.1=none∧p.1≠X.env.locals∧p.1 ∉ X.fs∧∀v,p.2.data≠ .cell v):Inv X pins' σ H s:=
 ⟨I.ok,I.os,I.bare,I.base,I.loc,I.cell,I.free,I.freeC,fun p hp=>(List.mem_append.mp hp).elim (fun z=>I.pin p (List.mem_append_left _ z)) (h p),I.hok,I.len⟩
theorem uC{N:List Str}(hN:N.Nodup){i j:Nat}{x:Str}(a:N[i]? =some x)(b:N[j]? =some x):i=j:=by
 obtain⟨h1,e1⟩:=List.getElem?_eq_some_iff.mp a
 obtain⟨h2,e2⟩:=List.getElem?_eq_some_iff.mp b
 exact(List.getElem_inj hN).mp (e1.trans e2.symm)
theorem rh{M:Model}{A:Around}{E:Value→Shared→Prop}{i:Nat}{x:Str}{v:V}{u:Value}{Q:Unit→Shared→Prop}(I:Inv X pins σ H s)(hN:X.N.Nodup)(hi:X.N[i]? =some x)(hx:Loc X.env.scope x)(r:RelV v u)
 (h:∀s',Inv X pins (σ.set i (some v)) H s'→(∃a,Heap.SameBut a s.heap s'.heap∧(a=X.env.locals∨X.env.cells.lookup x=some a))→Q () s') (hf:X.fn x=true∨X.env.scope.names.lookup x=some .local:=by first | exact .inl rfl | exact .inr rfl | assumption):wpAny M A (storeName X.env x u) Q E s:=by
 obtain⟨m,hn,hl⟩:=id I.loc
 have hcls:(X.env.scope.kind== .class || (X.env.scope.kind== .module && X.env.locals !=X.env.globals))=false:=by rw[I.ok.kind];rfl
 have hiσ:i < σ.length:=by rw[I.len];exact(List.getElem?_eq_some_iff.mp hi).1
 have Ei:=I.Ei
 have tracked:∀{a:Addr} {h':Heap},(∃o,s.heap.get? a=some o∧H a=none)→Heap.SameBut a s.heap h'→k3 X.prog X.w H h':=fun {a h'} ha hs b ob e=>by
  obtain⟨_,_,hfree⟩:=ha
  refine(I.hok b ob e).sH (fun c w' hc q=>(hs.2 c ?_).trans q) (fun _ q=>q) fun _ _ q=>q
  rintro rfl
  rcases hc with rfl | hc
  ·rw[hfree] at e;cases e
  ·rw[hfree] at hc;cases hc
 rcases hx with hk | hk
 ·refine wpAny_storeName_local hk hn (fun h' hn' hs=>?_) hcls
  obtain⟨oL,_,_,hoL,_⟩:=id hn
  refine h _ ⟨I.ok,I.os,I.bare,⟨fun b o e n hb hx=>?_,fun b o e n hb hx=>?_,I.base.free,fun b o e hx=>?_,I.base.tups,I.base.frzs,I.base.tbls⟩,⟨_,hn',fun j y v' e1 e2 e3=>?_⟩,fun y c e=>?_,I.free,I.freeC,fun p hp=>?_,tracked ⟨oL,hoL,I.free⟩ hs,by simpa using I.len⟩ ⟨_,hs, .inl rfl⟩
  ·exact(hs.2 b (Nat.ne_of_lt (Nat.lt_of_lt_of_le (Heap.lt_size e) I.ok.above))).trans (I.base.keep b o e n hb hx)
  ·obtain⟨sl,e1⟩:=I.base.slot b o e n hb hx
   exact⟨sl,(hs.2 b (Nat.ne_of_lt (Nat.lt_of_lt_of_le (Heap.lt_size e) I.ok.above))).trans e1⟩
  ·obtain⟨o',e1⟩:=I.base.there b o e hx
   exact⟨o',(hs.2 b (Nat.ne_of_lt (Nat.lt_of_lt_of_le (Heap.lt_size e) I.ok.above))).trans e1⟩
  ·by_cases hj:j=i
   ·subst hj
    rw[hi] at e1;cases e1
    rw[List.getElem?_set_self hiσ] at e2
    cases e2
    exact⟨u,r, .inl ⟨hk,by simp⟩⟩
   ·rw[List.getElem?_set_ne (Ne.symm hj)] at e2
    obtain⟨u',r',q⟩:=hl j y v' e1 e2 e3
    refine⟨u',r',?_⟩
    rcases q with⟨k,e⟩ | ⟨k,c,e,z⟩
    ·refine .inl ⟨k,?_⟩
     have:y≠x:=fun e=>hj (uC hN e1 (e▸hi))
     simp [this,e]
    ·exact .inr ⟨k,c,e,z.sameBut hs (Ei y c e)⟩
  ·obtain⟨w',z⟩:=I.cell y c e
   exact⟨w',z.sameBut hs (Ei y c e)⟩
  ·obtain⟨e,n,ne,nf,d⟩:=I.pin p hp
   exact⟨(hs.2 p.1 ne).trans e,n,ne,nf,d⟩
 ·have hfn:X.fn x=true:=by
   rcases hf with z | z
   ·exact z
   ·rw[z] at hk;cases hk
  obtain⟨c,hc⟩:=I.ok.has x (.inl hk)
  obtain⟨w',z⟩:=I.cell x c hc
  refine wpAny_storeName_cell I.ok.kind hk hc z (fun h' hc' hs=>?_)
  obtain⟨oc,hoc,hocd⟩:=id z
  refine h {s with heap:=h'} ⟨I.ok,I.os,I.bare,⟨fun b o e n hb hx=>?_,fun b o e n hb hx=>?_,I.base.free,fun b o e hx=>?_,I.base.tups,I.base.frzs,I.base.tbls⟩,⟨m,hn.sameBut hs (Ne.symm (Ei x c hc)),fun j y v' e1 e2 e3=>?_⟩,fun y c' e=>?_,I.free,I.freeC,fun p hp=>?_,tracked ⟨oc,hoc,I.freeC x c hc⟩ hs,by simpa using I.len⟩ ⟨c,hs, .inr hc⟩
  ·exact(hs.2 b (Nat.ne_of_lt (Nat.lt_of_lt_of_le (Heap.lt_size e) (I.ok.cab x c hfn hc)))).trans (I.base.keep b o e n hb hx)
  ·obtain⟨sl,e1⟩:=I.base.slot b o e n hb hx
   exact⟨sl,(hs.2 b (Nat.ne_of_lt (Nat.lt_of_lt_of_le (Heap.lt_size e) (I.ok.cab x c hfn hc)))).trans e1⟩
  ·obtain⟨o',e1⟩:=I.base.there b o e hx
   exact⟨o',(hs.2 b (Nat.ne_of_lt (Nat.lt_of_lt_of_le (Heap.lt_size e) (I.ok.cab x c hfn hc)))).trans e1⟩
  ·by_cases hj:j=i
   ·subst hj
    rw[hi] at e1;cases e1
    rw[List.getElem?_set_self hiσ] at e2
    cases e2
    exact⟨u,r, .inr ⟨.inl hk,c,hc,hc'⟩⟩
   ·rw[List.getElem?_set_ne (Ne.symm hj)] at e2
    obtain⟨u',r',q⟩:=hl j y v' e1 e2 e3
    refine⟨u',r',?_⟩
    rcases q with q | ⟨k,c',e,z'⟩
    ·exact .inl q
    ·refine .inr ⟨k,c',e,z'.sameBut hs ?_⟩
     rintro rfl
     exact hj (uC hN e1 (I.ok.inj _ _ _ e hc▸hi))
  ·by_cases hcc:c'=c
   ·subst hcc;exact⟨_,hc'⟩
   ·obtain⟨w2,z2⟩:=I.cell y c' e
    exact⟨w2,z2.sameBut hs hcc⟩
  ·obtain⟨e,n,ne,nf,d⟩:=I.pin p hp
   refine⟨(hs.2 p.1 ?_).trans e,n,ne,nf,d⟩
   intro q
   rw[q,hoc] at e
   have q':oc=p.2:=Option.some.inj e
   exact d w' (by rw[←q'];exact hocd)
theorem t8{M:Model}{A:Around}{E:Value→Shared→Prop}{i:Nat}{x:Str}{v:V}{u:Value}{Q:Unit→Shared→Prop}(I:Inv X pins σ H s)(hN:X.N.Nodup)(hi:X.N[i]? =some x)(hx:Loc X.env.scope x)(r:RelV v u)
 (h:∀s',Inv X pins (σ.set i (some v)) H s'→Q () s') (hf:X.fn x=true∨X.env.scope.names.lookup x=some .local:=by first | exact .inl rfl | exact .inr rfl | assumption):wpAny M A (storeName X.env x u) Q E s:=
 rh I hN hi hx r (fun s' I' _=>h s' I') hf
theorem Inv.He{s':Shared}{ch:List Addr}(I:Inv X pins σ H s)(ho:s'.os=s.os)(u:Un (zm X.stack) ch H H' s.heap s'.heap)(hok:k3 X.prog X.w H' s'.heap)(hg:AllBare s'.gens)
 (hch:∀b∈ch,(b∈X.ex∨X.s₀.heap.objs.size≤b)∧b≠X.env.locals∧(∀x c,X.env.cells.lookup x=some c→c≠b)∧∀p∈X.pn++pins,p.1≠b):Inv X pins σ H' s':=by
 obtain⟨h',g',d',t',o'⟩:=s'
 have e:o'=s.os:=ho
 subst e
 exact I.call (g':=g') (t':=t') (d':=d') u hok hg hch
end
noncomputable abbrev XK:=Value→Option Addr→Hp→Prop
noncomputable abbrev St:=List (Option V)
noncomputable abbrev VK:=V→Hp→Prop
noncomputable abbrev TE:=St→Hp→VK→Prop
noncomputable abbrev TT:=St→Hp→(Bool→Hp→Prop)→Prop
noncomputable abbrev TA:=St→Hp→(List V→Hp→Prop)→Prop
structure Ends where
 nx:St→Hp→Prop
 rt:VK
 bk:St→Hp→Prop:=fun _ _=>False
 ct:St→Hp→Prop:=fun _ _=>False
noncomputable abbrev TS:=Ends→St→Hp→Prop
noncomputable def EP(X:Cx)(pins:List (Addr × Obj))(σ:St)(Q:VK)(u:Value)(s':Shared):Prop:=∃v H',Inv X pins σ H' s'∧RelV v u∧Q v H'
noncomputable def TP(X:Cx)(pins:List (Addr × Obj))(σ:St)(Q:Bool→Hp→Prop)(b:Bool)(s':Shared):Prop:=∃H',Inv X pins σ H' s'∧Q b H'
noncomputable def AP(X:Cx)(pins:List (Addr × Obj))(σ:St)(Q:List V→Hp→Prop)(us:List Value)(s':Shared):Prop:=∃vs H',Inv X pins σ H' s'∧Vals vs us∧Q vs H'
noncomputable def SP(X:Cx)(pins:List (Addr × Obj))(D:Ends)(f:Flow)(s':Shared):Prop:=
 match f with
 | .next=>∃σ' H',Inv X pins σ' H' s'∧D.nx σ' H'
 | .brk=>∃σ' H',Inv X pins σ' H' s'∧D.bk σ' H'
 | .cont=>∃σ' H',Inv X pins σ' H' s'∧D.ct σ' H'
 | .ret u=>∃v σ' H',Inv X pins σ' H' s'∧RelV v u∧D.rt v H'
noncomputable def PE(X:Cx)(e:Expr)(t:TE):Prop:=
 ∀(pins:List (Addr × Obj)) (s:Shared) (σ:St) (H:Hp) (Q:VK),Inv X pins σ H s→t σ H Q→wpAny (model X.prog X.w) X.A (eval e X.env) (EP X pins σ Q) X.xe s
noncomputable def PT(X:Cx)(e:Expr)(t:TT):Prop:=
 ∀(pins:List (Addr × Obj)) (s:Shared) (σ:St) (H:Hp) (Q:Bool→Hp→Prop),Inv X pins σ H s→t σ H Q→wpAny (model X.prog X.w) X.A (isTrue e X.env (eval e X.env)) (TP X pins σ Q) X.xe s
noncomputable def PW(X:Cx)(e:Expr)(t:TT):Prop:=
 ∀(whole:Sem Value) (pins:List (Addr × Obj)) (s:Shared) (σ:St) (H:Hp) (Q:Bool→Hp→Prop),Inv X pins σ H s→t σ H Q→wpAny (model X.prog X.w) X.A (isTrue e X.env whole) (TP X pins σ Q) X.xe s
theorem PW.pt{X:Cx}{e:Expr}{t:TT}(h:PW X e t):PT X e t:=h _
noncomputable def PA(X:Cx)(es:List Expr)(t:TA):Prop:=
 ∀(pos:Pos) (pins:List (Addr × Obj)) (s:Shared) (σ:St) (H:Hp) (Q:List V→Hp→Prop),Inv X pins σ H s→t σ H Q→wpAny (model X.prog X.w) X.A (spliced (backTo pos (starEach es X.env))) (AP X pins σ Q) X.xe s
noncomputable def PS(X:Cx)(st:Stmt)(t:TS):Prop:=
 ∀(pins:List (Addr × Obj)) (s:Shared) (σ:St) (H:Hp) (D:Ends),Inv X pins σ H s→t D σ H→wpAny (model X.prog X.w) X.A (exec st X.env) (SP X pins D) X.xe s
noncomputable def sT(X:Cx)(st:List Stmt)(t:TS):Prop:=
 ∀(pins:List (Addr × Obj)) (s:Shared) (σ:St) (H:Hp) (D:Ends),Inv X pins σ H s→t D σ H→wpAny (model X.prog X.w) X.A (execs st X.env) (SP X pins D) X.xe s
theorem dR{α:Type}{t:Sem α}{Q Q':α→Shared→Prop}{M:Model}{A:Around}{E:Value→Shared→Prop}{s:Shared}(h:wpAny M A t Q E s)(hQ:∀a s,Q a s→Q' a s):wpAny M A t Q' E s:=wpAny_mono h hQ fun _ _ x=>x
end L2
namespace L2
open PySem PySem.Spec PyProof.Rows
section
variable {X:Cx}
noncomputable def Iy(i:Nat):TE:=fun σ H Q=>∃v,σ[i]? =some (some v)∧Q v H
noncomputable def tC(v:V):TE:=fun _ H Q=>Q v H
theorem ng{i:Nat}{x:Str}{pos:Pos}(hN:X.N[i]? =some x)(hv:BM X.env.scope x)(hd:(x==("__debug__":Str))=false:=by decide)(hcd:(x==("__classdict__":Str))=false:=by decide):PE X (.Name x pos) (Iy i):=by
 intro pins s σ H Q I h
 obtain⟨v,e,h⟩:=h
 obtain⟨m,hn,hl⟩:=I.loc
 obtain⟨u,r,l⟩:=hl i x v hN e hv
 have fin:EP X pins σ Q u s:=⟨v,H,I,r,h⟩
 rcases l with⟨hk,hm⟩ | ⟨hk,c,hc,hcell⟩
 ·exact wpAny_Name (wpAny_loadName_local I.ok.kind hk hn hm fin) hd
 ·rcases hk with hk | hk
  ·exact wpAny_Name (wpAny_loadName_cell I.ok.kind hk hc hcell fin) hd
  ·exact wpAny_Name (wpAny_loadName_free I.ok.kind hk hc hcell fin hcd) hd
theorem pq{i j pos}:PE X (.Constant (.int i) j pos) (tC (.int i)):=fun _ _ _ H _ I h=>wpAny_Constant_int ⟨.int i,H,I.tok _,⟨_,rfl⟩,h⟩
theorem GB{b j pos}:PE X (.Constant (.bool b) j pos) (tC (.bl b)):=fun _ _ _ H _ I h=>Constant_bool ⟨.bl b,H,I,rfl,h⟩
theorem Fj{j pos}:PE X (.Constant .none j pos) (tC .cK):=fun _ _ _ H _ I h=>Constant_none ⟨.cK,H,I,rfl,h⟩
theorem px{x j pos}:PE X (.Constant (.str x) j pos) (tC (.str x)):=fun _ _ _ H _ I h=>Calls.Constant_str ⟨.str x,H,I.tok _,⟨_,rfl⟩,h⟩
noncomputable def Gl(X:Cx)(x:Str):Prop:=X.env.kindOf x=some .globalImplicit
theorem xZ{E:Value→Shared→Prop}{pins:List (Addr × Obj)}{s:Shared}{σ:St}{H:Hp}{x:Str}{u:Value}{pos:Pos}{Q:Value→Shared→Prop}(I:Inv X pins σ H s)(hg:Gl X x)(hm:X.mg x=some u)(h:Q u s)
 (hd:(x==("__debug__":Str))=false:=by decide):wpAny (model X.prog X.w) X.A (eval (.Name x pos) X.env) Q E s:=
 Calls.Name_function_global I.ok.kind hg (Calls.loadGlobal_global (by rw[I.ok.glob];exact I.mod.glob.keeps I.bk) hm h) hd
theorem lI{E:Value→Shared→Prop}{pins:List (Addr × Obj)}{s:Shared}{σ:St}{H:Hp}{x:Str}{u:Value}{pos:Pos}{Q:Value→Shared→Prop}(I:Inv X pins σ H s)(hg:Gl X x)(hm:X.mg x=none)(hv:bootBuiltins x=some u)(h:Q u s)
 (hn:x≠"__name__":=by decide) (hd:(x==("__debug__":Str))=false:=by decide):wpAny (model X.prog X.w) X.A (eval (.Name x pos) X.env) Q E s:=by
 obtain⟨mb,h1,h2⟩:=I.mod.blt
 exact Calls.Name_function_global I.ok.kind hg (Calls.loadGlobal_builtin (by rw[I.ok.glob];exact I.mod.glob.keeps I.bk) hm (by rw[I.ok.blt];exact h1.keeps I.bk) ((h2 x hn).trans hv) h) hd
noncomputable def HU(ta tb:TE)(k:Int→Int→Hp→Prop):St→Hp→Prop:=fun σ H=>ta σ H fun x H1=>tb σ H1 fun y H2=>∃i j,x= .int i∧y= .int j∧k i j H2
noncomputable def Kp(ta tb:TE):TE:=fun σ H Q=>HU ta tb (fun i j H2=>Q (.int (i+j)) H2) σ H
noncomputable def Kk(ta tb:TE):TE:=fun σ H Q=>HU ta tb (fun i j H2=>Q (.int (i - j)) H2) σ H
noncomputable def Kn(ta tb:TE):TE:=fun σ H Q=>HU ta tb (fun i j H2=>(-(2 ^ 64) < i∧i < 2 ^ 64)∧Q (.int (i*j)) H2) σ H
variable {a b:Expr} {ta tb:TE} {pos:Pos}
noncomputable def PC(X:Cx)(op:CmpOp)(a b:Expr)(t:TE):Prop:=
 ∀(pins:List (Addr × Obj)) (s:Shared) (σ:St) (H:Hp) (Q:VK),Inv X pins σ H s→t σ H Q→
  wpAny (model X.prog X.w) X.A (eval a X.env) (fun v s₁=>wpAny (model X.prog X.w) X.A (eval b X.env) (fun u s₂=>wpAny (model X.prog X.w) X.A (compareOp op v u) (EP X pins σ Q) X.xe s₂) X.xe s₁) X.xe s
noncomputable def yV(p:Int→Int→Bool)(ta tb:TE):TE:=fun σ H Q=>HU ta tb (fun i j H2=>Q (.bl (p i j)) H2) σ H
noncomputable abbrev Lv:TE→TE→TE:=yV fun i j=>decide (i < j)
noncomputable abbrev Ll:TE→TE→TE:=yV fun i j=>decide (i≤j)
noncomputable abbrev Ly:TE→TE→TE:=yV fun i j=>decide (j < i)
noncomputable abbrev Lw:TE→TE→TE:=yV fun i j=>decide (j≤i)
noncomputable abbrev K1:TE→TE→TE:=yV fun i j=>decide (i=j)
noncomputable abbrev KG:TE→TE→TE:=yV fun i j=>!decide (i=j)
noncomputable def K0(ta:TE):TE:=fun σ H Q=>ta σ H fun x H1=>Q (.bl (decide (x= .cK))) H1
noncomputable def Jx(ta:TE):TE:=fun σ H Q=>ta σ H fun x H1=>Q (.bl (!decide (x= .cK))) H1
noncomputable def tB(t:TE):TT:=fun σ H Q=>t σ H fun x H1=>∃c,x= .bl c∧Q c H1
variable {tA tB':TT} {rest:List Expr}
noncomputable def IE(t u:TT):TT:=fun σ H Q=>t σ H fun c H1=>if c=true then u σ H1 Q else Q false H1
noncomputable def Ka(t u:TT):TT:=fun σ H Q=>t σ H fun c H1=>if c=true then Q true H1 else u σ H1 Q
noncomputable def Jp(t:TT):TT:=fun σ H Q=>t σ H fun c H1=>Q (!c) H1
theorem xQ(ha:PT X a tA):PW X (.BoolOp .And [a] pos) tA:=by
 intro wh pins s σ H Q I h
 refine isTrue_and (dR (ha pins s σ H Q I h) fun c s1 e=>?_)
 cases c with
 | true=>exact isTrue_and_nil e
 | false=>exact e
theorem F_(ha:PT X a tA):PW X (.BoolOp .Or [a] pos) tA:=by
 intro wh pins s σ H Q I h
 refine isTrue_or (dR (ha pins s σ H Q I h) fun c s1 e=>?_)
 cases c with
 | false=>exact isTrue_or_nil e
 | true=>exact e
theorem BF(ha:PT X a tA)(hb:PW X (.BoolOp .And (b ::rest) pos) tB'):PW X (.BoolOp .And (a ::b ::rest) pos) (IE tA tB'):=by
 intro wh pins s σ H Q I h
 refine isTrue_and (dR (ha pins s σ H _ I h) fun c s1 ⟨H1,I1,q1⟩=>?_)
 cases c with
 | true=>exact hb wh pins s1 σ H1 Q I1 q1
 | false=>exact⟨H1,I1,q1⟩
theorem Gu(ha:PT X a tA)(hb:PW X (.BoolOp .Or (b ::rest) pos) tB'):PW X (.BoolOp .Or (a ::b ::rest) pos) (Ka tA tB'):=by
 intro wh pins s σ H Q I h
 refine isTrue_or (dR (ha pins s σ H _ I h) fun c s1 ⟨H1,I1,q1⟩=>?_)
 cases c with
 | true=>exact⟨H1,I1,q1⟩
 | false=>exact hb wh pins s1 σ H1 Q I1 q1
theorem AW(ha:PT X a tA):PT X (.UnaryOp .Not a pos) (Jp tA):=by
 intro pins s σ H Q I h
 exact isTrue_not (ha pins s σ H (fun c H1=>Q (!c) H1) I h)
noncomputable def J5(ta tb:TE):TE:=fun σ H Q=>ta σ H fun x H1=>∃c,x= .bl c∧if c=true then tb σ H1 Q else Q (.bl false) H1
noncomputable def K9(ta tb:TE):TE:=fun σ H Q=>ta σ H fun x H1=>∃c,x= .bl c∧if c=true then Q (.bl true) H1 else tb σ H1 Q
noncomputable def JF(ta:TE):TE:=fun σ H Q=>ta σ H fun x H1=>∃c,x= .bl c∧Q (.bl (!c)) H1
noncomputable def Kl(t:TT)(ta tb:TE):TE:=fun σ H Q=>t σ H fun c H1=>if c=true then ta σ H1 Q else tb σ H1 Q
theorem Ah{c:Expr}(hc:PT X c tA)(ha:PE X a ta)(hb:PE X b tb):PE X (.IfExp c a b pos) (Kl tA ta tb):=by
 intro pins s σ H Q I h
 refine wpAny_IfExp (dR (hc pins s σ H _ I h) fun d s1 ⟨H1,I1,q1⟩=>?_)
 cases d with
 | true=>exact ha pins s1 σ H1 Q I1 q1
 | false=>exact hb pins s1 σ H1 Q I1 q1
end
end L2
namespace L2
open PySem PySem.Spec PyProof.Rows
noncomputable def kZ(K:PySem.W.Frag)(H:Hp)(a:Addr)(xs:List V):Prop:=
 Rd H a (.lst xs)∨
  ∃(o:Obj) (its:Array Value) (n:Nat),K.lookup a=some o∧o.cls= .type "list"∧o.dict=none∧o.data= .seq its n∧its.size≤sizeLine∧Vals xs its.toList
noncomputable def nV(K:PySem.W.Frag)(H:Hp)(a:Addr)(xs:List V):Prop:=
 Rd H a (.tup xs)∨
  ∃(o:Obj) (its:Array Value) (n:Nat),K.lookup a=some o∧o.cls= .type "tuple"∧o.data= .seq its n∧its.size≤sizeLine∧Vals xs its.toList
noncomputable def Io:Value→Option V
 | .none=>some .cK
 | .bool b=>some (.bl b)
 | .int i _=>some (.int i)
 | .str x _=>some (.str x)
 | .bytes b _=>some (.byt b)
 | .float b _=>some (.flt b)
 | .ref a=>some (.ref a)
 | .type n=>some (.ty n)
 | _=>none
theorem RelV.abs{x:V}{u:Value}(r:RelV x u):Io u=some x:=by
 cases x with
 | cK=>cases r;rfl
 | bl _=>cases r;rfl
 | int _=>obtain⟨t,rfl⟩:=r;rfl
 | str _=>obtain⟨t,rfl⟩:=r;rfl
 | byt _=>obtain⟨t,rfl⟩:=r;rfl
 | flt _=>obtain⟨t,rfl⟩:=r;rfl
 | ref _=>cases r;rfl
 | ty _=>cases r;rfl
theorem RelV.inj{x y:V}{u:Value}(r:RelV x u)(q:RelV y u):x=y:=Option.some.inj (r.abs.symm.trans q.abs)
theorem Vals.inj:∀{xs ys:List V} {us:List Value},Vals xs us→Vals ys us→xs=ys
 | _,_,_, .nil, .nil=>rfl
 | _,_,_, .cons r t, .cons r' t'=>by rw[r.inj r',Vals.inj t t']
section
variable {X:Cx} {pins:List (Addr × Obj)} {σ:St} {H:Hp} {s:Shared} {a:Addr} {xs ys:List V}
theorem kZ.of{K:PySem.W.Frag}(h:H a=some (.lst xs)):kZ K H a xs:= .inl (.inl h)
theorem Inv.list(I:Inv X pins σ H s)(h:kZ X.K H a xs):∃its:List Value,Vals xs its∧PlainL s.heap a its.toArray∧xs.length≤sizeLine:=by
 rcases h with h | ⟨o,its,n,hk,hc,hd,hs,hz,r⟩
 ·obtain⟨z,its,n,r,e⟩:=h.ok I.hok
  exact⟨its,r,⟨_,n,e,rfl,rfl,rfl⟩,z⟩
 ·refine⟨its.toList,r,⟨o,n,I.xt a o hk,hc,hd,by simpa using hs⟩,?_⟩
  have e:=r.length
  simp only[Array.length_toList] at e
  omega
theorem Inv.tuple(I:Inv X pins σ H s)(h:nV X.K H a xs):∃its:List Value,Vals xs its∧IsTup s.heap a its.toArray∧xs.length≤sizeLine:=by
 rcases h with h | ⟨o,its,n,hk,hc,hs,hz,r⟩
 ·obtain⟨z,its,r,p⟩:=h.ok I.hok
  exact⟨its,r,p,z⟩
 ·refine⟨its.toList,r,⟨o,I.xt a o hk,hc,n,by simpa using hs⟩,?_⟩
  have e:=r.length
  simp only[Array.length_toList] at e
  omega
theorem Inv.l0(I:Inv X pins σ H s)(h:kZ X.K H a xs)(h':kZ X.K H a ys):xs=ys:=by
 obtain⟨its,r,⟨o,n,e,_,_,d⟩,_⟩:=I.list h
 obtain⟨its',r',⟨o',n',e',_,_,d'⟩,_⟩:=I.list h'
 rw[e] at e';cases e'
 rw[d] at d'
 injection d' with d1 _
 have:its=its':=by simpa using congrArg Array.toList d1
 subst this
 exact r.inj r'
theorem Inv.m6(I:Inv X pins σ H s)(h:nV X.K H a xs)(h':nV X.K H a ys):xs=ys:=by
 obtain⟨its,r,⟨o,e,_,n,d⟩,_⟩:=I.tuple h
 obtain⟨its',r',⟨o',e',_,n',d'⟩,_⟩:=I.tuple h'
 rw[e] at e';cases e'
 rw[d] at d'
 injection d' with d1 _
 have:its=its':=by simpa using congrArg Array.toList d1
 subst this
 exact r.inj r'
end
noncomputable abbrev Cx.qx(X:Cx)(E:Value→Shared→Prop):Cx:={X with xe:=E}
noncomputable abbrev Cx.B9(X:Cx):Cx:=X.qx fun _ _=>False
theorem Cx.Ok.qx{X:Cx}(ok:X.Ok)(E:Value→Shared→Prop):(X.qx E).Ok:=
 ⟨ok.mod,ok.kind,ok.glob,ok.blt,ok.above,ok.inj,ok.has,ok.cab,ok.hd,ok.frames,ok.stk,ok.exf,ok.bs,ok.bsz,ok.noex,ok.exfs,ok.oa,ok.frf⟩
theorem Cx.Ok.j9{X:Cx}{E:Value→Shared→Prop}(ok:(X.qx E).Ok):X.Ok:=
 ⟨ok.mod,ok.kind,ok.glob,ok.blt,ok.above,ok.inj,ok.has,ok.cab,ok.hd,ok.frames,ok.stk,ok.exf,ok.bs,ok.bsz,ok.noex,ok.exfs,ok.oa,ok.frf⟩
section
variable {X:Cx} {pins:List (Addr × Obj)} {σ:St} {H:Hp} {s:Shared} {E:Value→Shared→Prop}
theorem Inv.qx(I:Inv X pins σ H s)(E:Value→Shared→Prop):Inv (X.qx E) pins σ H s:=⟨I.ok.qx E,I.os,I.bare,I.base,I.loc,I.cell,I.free,I.freeC,I.pin,I.hok,I.len⟩
theorem Inv.j9(I:Inv (X.qx E) pins σ H s):Inv X pins σ H s:=⟨I.ok.j9,I.os,I.bare,I.base,I.loc,I.cell,I.free,I.freeC,I.pin,I.hok,I.len⟩
theorem SP.j9{D:Ends}{f:Flow}{s':Shared}(h:SP (X.qx E) pins D f s'):SP X pins D f s':=by
 cases f with
 | next=>obtain⟨σ',H',I,q⟩:=h;exact⟨σ',H',I.j9,q⟩
 | brk=>obtain⟨σ',H',I,q⟩:=h;exact⟨σ',H',I.j9,q⟩
 | cont=>obtain⟨σ',H',I,q⟩:=h;exact⟨σ',H',I.j9,q⟩
 | ret u=>obtain⟨v,σ',H',I,r,q⟩:=h;exact⟨v,σ',H',I.j9,r,q⟩
theorem sT.B9{st:List Stmt}{t:TS}(h:sT X.B9 st t):sT X st t:=fun pins s σ H D I hw=>
 wpAny_mono (h pins s σ H D (I.qx _) hw) (fun _ _ q=>q.j9) fun _ _ z=>False.elim z
end
section
variable {X:Cx} {st:Stmt} {rest:List Stmt} {t u:TS} {e:Expr} {te:TE} {pos:Pos}
noncomputable def HG:TS:=fun D σ H=>D.nx σ H
noncomputable def GN(t u:TS):TS:=fun D σ H=>t {D with nx:=u D} σ H
theorem rO:sT X [] HG:=fun _ _ σ H _ I h=>wpAny_execs_nil ⟨σ,H,I,h⟩
theorem pM(h1:PS X st t)(h2:sT X rest u):sT X (st ::rest) (GN t u):=by
 intro pins s σ H D I h
 refine wpAny_execs_cons (dR (h1 pins s σ H {D with nx:=u D} I h) fun f s1 q=>?_)
 cases f with
 | next=>
   obtain⟨σ',H',I',q⟩:=q
   exact h2 pins s1 σ' H' D I' q
 | ret v=>exact q
 | brk=>exact q
 | cont=>exact q
theorem sP(h1:PS X st t):sT X [st] t:=by
 intro pins s σ H D I h
 refine wpAny_execs_cons (dR (h1 pins s σ H D I h) fun f s1 q=>?_)
 cases f with
 | next=>exact wpAny_execs_nil q
 | ret v=>exact q
 | brk=>exact q
 | cont=>exact q
noncomputable def Ib:TS:=fun D σ H=>D.bk σ H
noncomputable def GH:TS:=fun D σ H=>D.ct σ H
theorem tV:PS X (.Continue pos) GH:=fun _ _ σ H _ I h=>wpAny_Continue ⟨σ,H,I,h⟩
theorem Inv.quiet{pins:List (Addr × Obj)}{σ:St}{H:Hp}{s:Shared}(I:Inv X pins σ H s):interactive X.env=false:=by simp [interactive,I.ok.kind]
noncomputable def G7(te:TE):TS:=fun D σ H=>te σ H fun _ H1=>D.nx σ H1
theorem sg(he:PE X e te)(hs:swapsWith e none pos.line X.env=pure false:=by rfl):PS X (.Expr e pos) (G7 te):=by
 intro pins s σ H D I h
 exact wpAny_Expr_any (dR (he pins s σ H _ I h) fun v s1 ⟨x,H1,I1,r1,q1⟩=>⟨σ,H1,I1,q1⟩) I.quiet hs
noncomputable def Ik(te:TE):TS:=fun D σ H=>te σ H D.rt
theorem BE(he:PE X e te):PS X (.Return (some e) pos) (Ik te):=by
 intro pins s σ H D I h
 exact wpAny_Return_some (dR (he pins s σ H _ I h) fun v s1 ⟨x,H1,I1,r1,q1⟩=>⟨x,σ,H1,I1,r1,q1⟩)
noncomputable def JC:TS:=fun D _ H=>D.rt .cK H
noncomputable def Ja(c:TT)(t u:TS):TS:=fun D σ H=>c σ H fun b H1=>if b=true then t D σ H1 else u D σ H1
theorem AE{c:Expr}{a b:List Stmt}{tc:TT}(hc:PT X c tc)(ha:sT X a t)(hb:sT X b u):PS X (.If c a b pos) (Ja tc t u):=by
 intro pins s σ H D I h
 refine wpAny_If (dR (hc pins s σ H _ I h) fun d s1 ⟨H1,I1,q1⟩=>?_)
 cases d with
 | true=>exact ha pins s1 σ H1 D I1 q1
 | false=>exact hb pins s1 σ H1 D I1 q1
noncomputable def IB:TS:=fun _ _ _=>False
end
noncomputable abbrev TG:=V→St→Hp→(St→Hp→Prop)→Prop
noncomputable abbrev AJ:=List V→St→Hp→(St→Hp→Prop)→Prop
noncomputable def PG(X:Cx)(target:Expr)(t:TG):Prop:=
 ∀(pins:List (Addr × Obj)) (s:Shared) (σ:St) (H:Hp) (v:V) (u:Value) (Q:St→Hp→Prop),Inv X pins σ H s→RelV v u→t v σ H Q→
  wpAny (model X.prog X.w) X.A (assign target X.env u) (fun _ s'=>∃σ' H',Inv X pins σ' H' s'∧Q σ' H') X.xe s
noncomputable def Di(X:Cx)(ts:List Expr)(t:AJ):Prop:=
 ∀(pins:List (Addr × Obj)) (s:Shared) (σ:St) (H:Hp) (vs:List V) (us:List Value) (Q:St→Hp→Prop),Inv X pins σ H s→Vals vs us→t vs σ H Q→
  wpAny (model X.prog X.w) X.A (assignInOrder ((assignEach ts X.env).map (·.2)) us) (fun _ s'=>∃σ' H',Inv X pins σ' H' s'∧Q σ' H') X.xe s
noncomputable abbrev Dn:=V→V→V→Hp→(Hp→Prop)→Prop
noncomputable def Hs(X:Cx)(t:Dn):Prop:=
 ∀(pins:List (Addr × Obj)) (s:Shared) (σ:St) (H:Hp) (o i v:V) (ov iv u:Value) (Q:Hp→Prop),Inv X pins σ H s→RelV o ov→RelV i iv→RelV v u→t o i v H Q→
  wpAny (model X.prog X.w) X.A (setItem ov iv u) (fun _ s'=>∃H',Inv X pins σ H' s'∧Q H') X.xe s
noncomputable abbrev HW:=V→V→Hp→VK→Prop
noncomputable def Lh(X:Cx)(op:Operator)(t:HW):Prop:=
 ∀(pins:List (Addr × Obj)) (s:Shared) (σ:St) (H:Hp) (x y:V) (v u:Value) (Q:VK),Inv X pins σ H s→RelV x v→RelV y u→t x y H Q→
  wpAny (model X.prog X.w) X.A (inplaceOp op v u) (EP X pins σ Q) X.xe s
section
variable {X:Cx} {pos:Pos}
noncomputable def pJ(i:Nat):TG:=fun v σ H Q=>Q (σ.set i (some v)) H
theorem xM{i:Nat}{x:Str}(hN:X.N.Nodup)(hi:X.N[i]? =some x)(hx:Loc X.env.scope x)(hf:X.fn x=true∨X.env.scope.names.lookup x=some .local:=by first | exact .inl rfl | exact .inr rfl | assumption):PG X (.Name x pos) (pJ i):=by
 intro pins s σ H v u Q I r h
 exact wpAny_assign_Name (t8 I hN hi hx r (fun s' I'=>⟨_,H,I',h⟩) hf)
noncomputable def Im:AJ:=fun vs σ H Q=>vs=[]∧Q σ H
noncomputable def GY(t:TG)(u:AJ):AJ:=fun vs σ H Q=>∃v r,vs=v ::r∧t v σ H fun σ' H'=>u r σ' H' Q
theorem wZ:Di X [] Im:=by
 intro pins s σ H vs us Q I r h
 obtain⟨e,h⟩:=h
 subst e
 cases r
 exact assignInOrder_nil ⟨σ,H,I,h⟩
theorem ua{e:Expr}{es:List Expr}{t:TG}{u:AJ}(h1:PG X e t)(h2:Di X es u)
 (hs:(assignEach (e ::es) X.env).map (·.2)=assign e X.env ::(assignEach es X.env).map (·.2):=by rfl):Di X (e ::es) (GY t u):=by
 intro pins s σ H vs us Q I r h
 obtain⟨v,vr,e1,h⟩:=h
 subst e1
 cases r with
 | cons r rr=>
   rw[hs]
   refine assignInOrder_cons (dR (h1 pins s σ H _ _ _ I r h) fun _ s1 ⟨σ1,H1,I1,q1⟩=>?_)
   exact h2 pins s1 σ1 H1 _ _ Q I1 rr q1
noncomputable def Iq(K:PySem.W.Frag)(n:Nat)(t:AJ):TG:=fun v σ H Q=>∃a xs,v= .ref a∧nV K H a xs∧xs.length=n∧t xs σ H Q
theorem AS{es:List Expr}{k:Nat}{t:AJ}{n:Nat}(hc:X.calm=true)(h:Di X es t)
 (hn:(assignEach es X.env).length=n:=by rfl) (hst:(assignEach es X.env).findIdx? (·.1)=none:=by rfl):PG X (.Tuple es k pos) (Iq X.K n t):=by
 intro pins s σ H v u Q I r hw
 obtain⟨a,xs,e1,hq,hl,hw⟩:=hw
 subst e1
 cases r
 obtain⟨its,rv,ht,hz⟩:=I.tuple hq
 refine assign_Tuple_tuple (I.ok.hd hc) ht (by simp [hn,←hl,rv.length]) hst fun h' hx=>?_
 have I1:Inv X pins σ H {s with heap:=h'}:=I.kept (t':=s.toks) fun b o e=>hx b o (Nat.ne_of_lt (Heap.lt_size e)) e
 exact h pins _ σ H xs _ Q I1 (by simpa using rv) hw
noncomputable def Hj(to ti:TE)(t:Dn):TG:=fun v σ H Q=>to σ H fun o H1=>ti σ H1 fun i H2=>t o i v H2 fun H3=>Q σ H3
theorem BH{o i:Expr}{to ti:TE}{t:Dn}(ho:PE X o to)(hi:PE X i ti)(hs:Hs X t)
 (ha:∀v,assign (.Subscript o i pos) X.env v=(do
   let ov ←holding [v] (eval o X.env)
   let iv ←holding [v,ov] (eval i X.env)
   standAt pos
   holding [v,ov,iv] (setItem ov iv v)
   release [v,ov,iv] []):=by intro _;rfl):PG X (.Subscript o i pos) (Hj to ti t):=by
 intro pins s σ H v u Q I r h
 rw[ha]
 refine wpAny_bind (wpAny_holding (dR (ho pins s σ H _ I h) fun ov s1 ⟨x,H1,I1,r1,q1⟩=>?_))
 refine wpAny_bind (wpAny_holding (dR (hi pins s1 σ H1 _ I1 q1) fun iv s2 ⟨y,H2,I2,r2,q2⟩=>?_))
 refine wpAny_bind (wpAny_standAt (wpAny_bind (wpAny_holding (dR (hs pins s2 σ H2 x y v ov iv u _ I2 r1 r2 r q2) fun _ s3 ⟨H3,I3,q3⟩=>?_))))
 exact wpAny_release ⟨σ,H3,I3,q3⟩
noncomputable def yx(te:TE)(g:TG):TS:=fun D σ H=>te σ H fun x H1=>g x σ H1 D.nx
theorem Ap{tg e:Expr}{te:TE}{g:TG}(he:PE X e te)(hg:PG X tg g)(hs:swapsWithSole [tg] e pos.line X.env=pure false:=by rfl)(hw:swappedStores [tg] e X.env=pure none:=by rfl)
 (h1:(assignEach [tg] X.env).map (·.2)=[assign tg X.env]:=by rfl):PS X (.Assign [tg] e pos) (yx te g):=by
 intro pins s σ H D I h
 refine wpAny_Assign_stores (dR (he pins s σ H _ I h) fun v s1 ⟨x,H1,I1,r1,q1⟩=>?_) hs hw
 rw[h1]
 exact dR (hg pins s1 σ H1 x v _ I1 r1 q1) fun _ s2 q=>q
theorem vx{i:Nat}{x:Str}{e:Expr}{te:TE}{pos':Pos}(hN:X.N.Nodup)(hi:X.N[i]? =some x)(hx:Loc X.env.scope x)(he:PE X e te)(hs:swapsWith e (some (.Name x pos')) pos.line X.env=pure false:=by rfl)(hf:X.fn x=true∨X.env.scope.names.lookup x=some .local:=by first | exact .inl rfl | exact .inr rfl | assumption) :
 PS X (.Assign [.Name x pos'] e pos) (yx te (pJ i)):=by
 intro pins s σ H D I h
 refine wpAny_Assign_Name (dR (he pins s σ H _ I h) fun v s1 ⟨y,H1,I1,r1,q1⟩=>?_) hs
 exact t8 I1 hN hi hx r1 (fun s2 I2=>⟨_,H1,I2,q1⟩) hf
noncomputable def Kh(i j:Nat)(ta:TA):TS:=fun D σ H=>ta σ H fun vs H1=>∃v w,vs=[v,w]∧D.nx ((σ.set i (some v)).set j (some w)) H1
noncomputable def K_(i:Nat)(te:TE)(ti:HW):TS:=fun D σ H=>∃x,σ[i]? =some (some x)∧te σ H fun y H1=>ti x y H1 fun z H2=>D.nx (σ.set i (some z)) H2
noncomputable def JH(to ti te:TE)(tget:V→V→Hp→VK→Prop)(tip:HW)(tset:Dn):TS:=fun D σ H=>to σ H fun o H1=>ti σ H1 fun i H2=>tget o i H2 fun x H3=>te σ H3 fun y H4=>tip x y H4 fun z H5=>tset o i z H5 fun H6=>D.nx σ H6
noncomputable def Kq(X:Cx)(t:V→V→Hp→VK→Prop):Prop:=
 ∀(pins:List (Addr × Obj)) (s:Shared) (σ:St) (H:Hp) (o i:V) (ov iv:Value) (Q:VK),Inv X pins σ H s→RelV o ov→RelV i iv→t o i H Q→
  wpAny (model X.prog X.w) X.A (getItem ov iv) (EP X pins σ Q) X.xe s
noncomputable def Ln(f:Int→Int→Int):HW:=fun x y H Q=>∃i j,x= .int i∧y= .int j∧Q (.int (f i j)) H
end
section
variable {X:Cx} {pos:Pos}
noncomputable def II(c:TT)(tb:TS):TS:=fun D σ H=>∃W:Nat→St→Hp→Prop,(∃m,W m σ H)∧∀m σ H,W m σ H→
 c σ H fun b H1=>if b=true then ∃N:St→Hp→Prop,(∀σ' H',N σ' H'→∃m',m' < m∧W m' σ' H')∧tb {D with nx:=N,ct:=N,bk:=D.nx} σ H1 else D.nx σ H1
end
structure It where
 go:Nat→Hp→Prop
 yld:Nat→Hp→V→Hp→Prop
 stop:Nat→Hp→Prop
noncomputable def n9(X:Cx)(pins:List (Addr × Obj))(H:Hp)(b:Addr):Prop:=
 H b=none∧b≠X.env.locals∧b ∉ X.fs∧(b∈X.ex∨X.s₀.heap.objs.size≤b)∧(∀x c,X.env.cells.lookup x=some c→c≠b)∧∀p∈X.pn++pins,p.1≠b
theorem Inv.ql{X:Cx}{pins:List (Addr × Obj)}{σ:St}{H H':Hp}{s:Shared}{b:Addr}(I:Inv X pins σ H s)(hb:s.heap.objs.size≤b)(hn:H' b=none):n9 X pins H' b:=by
 refine⟨hn,Nat.ne_of_gt (Nat.lt_of_lt_of_le I.lt hb),I.Jb hb, .inr (Nat.le_trans I.sz hb),fun x c e z=>?_,fun p hp z=>?_⟩
 ·obtain⟨v,q⟩:=I.cell x c e
  exact absurd (Nat.lt_of_lt_of_le q.lt (by rw[z];exact hb)) (Nat.lt_irrefl _)
 ·exact absurd (Nat.lt_of_lt_of_le (Heap.lt_size (I.pin p hp).1) (by rw[z];exact hb)) (Nat.lt_irrefl _)
structure Turn (P:Program) (w:World) (K:PySem.W.Frag) (tg:Expr) (J:It) (fp:List Addr) (it:Addr) (tn:Nat→Heap→Prop):Prop where
 mem:it∈fp
 obj:∀i h,tn i h→∀b∈fp,∃o,h.get? b=some o∧∀v,o.data≠ .cell v
 keep:∀i h h',tn i h→(∀b∈fp,∀o,h.get? b=some o→h'.get? b=some o)→tn i h'
 item:∀(X:Cx),X.prog=P→X.w=w→X.K=K→X.calm=true→∀(i:Nat) (pins:List (Addr × Obj)) (s:Shared) (σ:St) (H:Hp) (E:Value→Shared→Prop),Inv X pins σ H s→(∀b∈fp,n9 X pins H b)→tn i s.heap→J.go i H→
  wpAny (model P w) X.A (pyNext (.ref it)) (fun r s1=>∃u,r=some u∧
   wpAny (model P w) X.A (letOwnedTupleGo tg (.ref it) u) (fun _ s2=>∃x H',Inv X pins σ H' s2∧RelV x u∧J.yld i H x H'∧tn (i+1) s2.heap∧∀b∈fp,H' b=none) E s1) E s
 done:∀(X:Cx),X.prog=P→X.w=w→X.K=K→X.calm=true→∀(i:Nat) (pins:List (Addr × Obj)) (s:Shared) (σ:St) (H:Hp) (E:Value→Shared→Prop),Inv X pins σ H s→(∀b∈fp,n9 X pins H b)→tn i s.heap→J.stop i H→
  wpAny (model P w) X.A (pyNext (.ref it)) (fun r s1=>r=none∧Inv X pins σ H s1) E s
 self:∀(A:Around) (i:Nat) (s:Shared) (Q:Value→Shared→Prop) (E:Value→Shared→Prop),tn i s.heap→Q (.ref it) s→wpAny (model P w) A (pyIter (.ref it)) Q E s
noncomputable abbrev TI:=St→Hp→(It→Hp→Prop)→Prop
noncomputable def JI(X:Cx)(pins:List (Addr × Obj))(σ:St)(tg:Expr)(R:It→Hp→Prop)(itv:Value)(s2:Shared):Prop:=
 ∃(it:Addr) (fp:List Addr) (tn:Nat→Heap→Prop) (J:It) (H':Hp),itv= .ref it∧Inv X pins σ H' s2∧Turn X.prog X.w X.K tg J fp it tn∧tn 0 s2.heap∧(∀b∈fp,n9 X pins H' b)∧R J H'
noncomputable def PI(X:Cx)(tg iter:Expr)(wi:TI):Prop:=
 ∀(pins:List (Addr × Obj)) (s:Shared) (σ:St) (H:Hp) (R:It→Hp→Prop),Inv X pins σ H s→wi σ H R→
  wpAny (model X.prog X.w) X.A (eval iter X.env) (fun v s1=>wpAny (model X.prog X.w) X.A (pyIter v) (JI X pins σ tg R) X.xe s1) X.xe s
theorem xC{M:Model}{A:Around}{E:Value→Shared→Prop}{s:Shared}{tg:Expr}{it:Addr}{u:Value}{o:Obj}{n:String}{vs:Array Value}{Q:Unit→Shared→Prop}(ho:s.heap.get? it=some o)(hc:o.cls= .type n)(hd:o.data= .fields vs)
 (hn:["enumerate","zip","dict_itemiterator","dict_reverseitemiterator","odict_iterator","itertools.zip_longest","itertools.pairwise"].contains n=false) (hQ:Q () s):wpAny M A (letOwnedTupleGo tg (.ref it) u) Q E s:=by
 unfold letOwnedTupleGo
 cases tg <;> first
  | exact wpAny_pure hQ
  | (cases u <;> first
      | exact wpAny_pure hQ
      | (refine wpAny_bind (wpAny_load ho ?_)
         rw[hc,hd]
         show wpAny M A (if(["enumerate","zip","dict_itemiterator","dict_reverseitemiterator","odict_iterator","itertools.zip_longest","itertools.pairwise"].contains n && vs[0]? ==some (rawInt _))=true then _ else _) Q E s
         rw[if_neg (by intro h;rw [hn,Bool.false_and] at h;cases h)]
         exact wpAny_pure hQ))
noncomputable def Jv(K:PySem.W.Frag)(a:Addr):It:=
 ⟨fun i H=>∃xs x,kZ K H a xs∧xs[i]? =some x,fun i H x H'=>H'=H∧∀xs,kZ K H a xs→xs[i]? =some x,fun i H=>∃xs,kZ K H a xs∧xs.length≤i⟩
noncomputable def JS(K:PySem.W.Frag)(a:Addr):It:=
 ⟨fun i H=>∃xs x,nV K H a xs∧xs[i]? =some x,fun i H x H'=>H'=H∧∀xs,nV K H a xs→xs[i]? =some x,fun i H=>∃xs,nV K H a xs∧xs.length≤i⟩
noncomputable def GA(lo:Int)(n:Nat):It:=⟨fun i _=>i < n,fun i H x H'=>H'=H∧x= .int (lo+i),fun i _=>n≤i⟩
theorem qR{P:Program}{w:World}{K:PySem.W.Frag}{tg:Expr}(a it:Addr):Turn P w K tg (Jv K a) [it] it (fun i h=>h.IsListIter it a i) where
 mem:=by simp
 obj:=fun i h st b hb=>by
  have e:b=it:=by simpa using hb
  subst e
  obtain⟨o,e,c,d⟩:=st
  exact⟨o,e,fun v z=>by rw[d] at z;cases z⟩
 keep:=fun i h h' st k=>st.at fun o e=>k it (by simp) o e
 item:=by
  intro X hP hw hK hc i pins s σ H E I hf st hg
  subst hP hw hK
  obtain⟨xs,x,hq,hx⟩:=hg
  obtain⟨its,rv,p,hz⟩:=I.list hq
  obtain⟨u,hu,ru⟩:=rv.get hx
  obtain⟨f0,f1,f2,f3,f4,f5⟩:=hf it (by simp)
  refine wpAny_pyNext_list_item st p.isList (x:=u) (by simpa using hu) fun h' st' sb=>?_
  have I1:Inv X pins σ H {s with heap:=h'}:=I.turned (t':=s.toks) (fun b o hb e=>(sb.2 b hb).trans e) f0 f1 f3 f4 f5
  obtain⟨o,e,c,d⟩:=id st'
  exact⟨u,rfl,xC (s:={s with heap:=h'}) e c d (by decide) ⟨x,H,I1,ru,⟨rfl,fun ys hy=>by rw[I.l0 hy hq];exact hx⟩,st',fun b hb=>(hf b hb).1⟩⟩
 done:=by
  intro X hP hw hK hc i pins s σ H E I hf st hg
  subst hP hw hK
  obtain⟨xs,hq,hx⟩:=hg
  obtain⟨its,rv,p,hz⟩:=I.list hq
  obtain⟨f0,f1,f2,f3,f4,f5⟩:=hf it (by simp)
  have hl:=rv.length
  exact wpAny_pyNext_list_end (I.ok.hd hc) st p.isList (by simp;omega) fun h' eb=>⟨rfl,I.turned (t':=s.toks) (fun b o hb e=>eb b o hb e) f0 f1 f3 f4 f5⟩
 self:=fun _ _ _ _ _ st h=>wpAny_pyIter_listiter st h
theorem vF{P:Program}{w:World}{K:PySem.W.Frag}{tg:Expr}(a it:Addr):Turn P w K tg (JS K a) [it] it (fun i h=>h.IsTupleIter it a i) where
 mem:=by simp
 obj:=fun i h st b hb=>by
  have e:b=it:=by simpa using hb
  subst e
  obtain⟨o,e,c,d⟩:=st
  exact⟨o,e,fun v z=>by rw[d] at z;cases z⟩
 keep:=fun i h h' st k=>st.at fun o e=>k it (by simp) o e
 item:=by
  intro X hP hw hK hc i pins s σ H E I hf st hg
  subst hP hw hK
  obtain⟨xs,x,hq,hx⟩:=hg
  obtain⟨its,rv,p,hz⟩:=I.tuple hq
  obtain⟨u,hu,ru⟩:=rv.get hx
  obtain⟨f0,f1,f2,f3,f4,f5⟩:=hf it (by simp)
  refine wpAny_pyNext_tuple_item st (show s.heap.IsTuple a its.toArray from p) (x:=u) (by simpa using hu) fun h' st' sb=>?_
  have I1:Inv X pins σ H {s with heap:=h'}:=I.turned (t':=s.toks) (fun b o hb e=>(sb.2 b hb).trans e) f0 f1 f3 f4 f5
  obtain⟨o,e,c,d⟩:=id st'
  exact⟨u,rfl,xC (s:={s with heap:=h'}) e c d (by decide) ⟨x,H,I1,ru,⟨rfl,fun ys hy=>by rw[I.m6 hy hq];exact hx⟩,st',fun b hb=>(hf b hb).1⟩⟩
 done:=by
  intro X hP hw hK hc i pins s σ H E I hf st hg
  subst hP hw hK
  obtain⟨xs,hq,hx⟩:=hg
  obtain⟨its,rv,p,hz⟩:=I.tuple hq
  obtain⟨f0,f1,f2,f3,f4,f5⟩:=hf it (by simp)
  have hl:=rv.length
  exact wpAny_pyNext_tuple_end (I.ok.hd hc) st (show s.heap.IsTuple a its.toArray from p) (by simp;omega) fun h' eb=>⟨rfl,I.turned (t':=s.toks) (fun b o hb e=>eb b o hb e) f0 f1 f3 f4 f5⟩
 self:=fun _ _ _ _ _ st h=>wpAny_pyIter_tupleiter st h
theorem wJ{P:Program}{w:World}{K:PySem.W.Frag}{tg:Expr}(it:Addr)(lo:Int)(n:Nat):Turn P w K tg (GA lo n) [it] it (fun i h=>IsRangeIter h it (lo+(i:Nat)*1) ((n:Int) - (i:Nat)) 1) where
 mem:=by simp
 obj:=fun i h st b hb=>by
  have e:b=it:=by simpa using hb
  subst e
  exact⟨_,st,fun v z=>by
   have z':Data.fields _=Data.cell v:=z
   cases z'⟩
 keep:=fun i h h' st k=>k it (by simp) _ st
 item:=by
  intro X hP hw hK hc i pins s σ H E I hf st hg
  subst hP hw hK
  obtain⟨f0,f1,f2,f3,f4,f5⟩:=hf it (by simp)
  have W:=Walks.range (prog:=X.prog) (w:=X.w) (I.ok.hd hc) it lo 1 n
  refine W.item i s _ _ hg st fun v h' tk hv st' kk=>?_
  obtain⟨t,rfl⟩:=hv
  have I1:Inv X pins σ H {s with heap:=h',toks:=tk}:=I.turned (fun b o hb e=>kk b o (by simpa using hb) e) f0 f1 f3 f4 f5
  refine⟨_,rfl,xC (s:={s with heap:=h',toks:=tk}) (n:="range_iterator") st' rfl rfl (by decide) ⟨.int (lo+i),H,I1,⟨t,?_⟩,⟨rfl,rfl⟩,st',fun b hb=>(hf b hb).1⟩⟩
  rw[Int.mul_one]
 done:=by
  intro X hP hw hK hc i pins s σ H E I hf st hg
  subst hP hw hK
  obtain⟨f0,f1,f2,f3,f4,f5⟩:=hf it (by simp)
  exact wpAny_pyNext_range_end (I.ok.hd hc) st (by have:n≤i:=hg;omega) fun h' eb=>⟨rfl,I.turned (t':=s.toks) (fun b o hb e=>eb b o hb e) f0 f1 f3 f4 f5⟩
 self:=fun _ _ _ _ _ st h=>wpAny_pyIter_rangeiter st h
end L2
namespace L2
open PySem PySem.Spec PyProof.Rows
section
variable {X:Cx} {tg:Expr}
noncomputable def JL(K:PySem.W.Frag)(tl:TE):TI:=fun σ H R=>tl σ H fun x H1=>∃a,x= .ref a∧(∃xs,kZ K H1 a xs)∧R (Jv K a) H1
noncomputable def IK(K:PySem.W.Frag)(tl:TE):TI:=fun σ H R=>tl σ H fun x H1=>∃a,x= .ref a∧(∃xs,nV K H1 a xs)∧R (JS K a) H1
theorem AD{pins:List (Addr × Obj)}{σ:St}{H:Hp}{s:Shared}{R:It→Hp→Prop}{E:Value→Shared→Prop}{lo hi:Int}{t u v:Tok}{tk:Nat}(I:Inv X pins σ H s)(h1: -(2 ^ 62)≤lo)(h2:lo < 2 ^ 62)(h3: -(2 ^ 62)≤hi)(h4:hi < 2 ^ 62)
 (q:R (GA lo (hi - lo).toNat) H):wpAny (model X.prog X.w) X.A (pyIter (.ref s.heap.objs.size)) (JI X pins σ tg R) E {s with heap:=s.heap.push {cls:= .type "range",data:= .fields #[.int lo t, .int hi u, .int 1 v]},toks:=tk}:=by
 refine wpAny_pyIter_range (IsRange.new ..) (small_one h1 h2 h3 h4) ?_
 have I1:Inv X pins σ H {s with heap:=s.heap.push {cls:= .type "range",data:= .fields #[.int lo t, .int hi u, .int 1 v]},toks:=tk}:=I.kept fun b o e=>Heap.get?_push_of_some _ e
 refine⟨(s.heap.push {cls:= .type "range",data:= .fields #[.int lo t, .int hi u, .int 1 v]}).objs.size,[(s.heap.push {cls:= .type "range",data:= .fields #[.int lo t, .int hi u, .int 1 v]}).objs.size],_,_,H,rfl,
  I1.kept (t':=tk) fun b o e=>Heap.get?_push_of_some _ e,wJ _ lo (hi - lo).toNat,?_,fun b hb=>?_,q⟩
 ·have e1:lo+((0:Nat):Int)*1=lo:=by simp
  have e2:(((hi - lo).toNat:Nat):Int) - ((0:Nat):Int)=Builtin.Range.rangeSize lo hi 1:=by rw[rangeSize_one];split <;> omega
  show IsRangeIter _ _ (lo+((0:Nat):Int)*1) ((((hi - lo).toNat:Nat):Int) - ((0:Nat):Int)) 1
  rw[e1,e2]
  exact Heap.get?_push_size _ rfl
 ·have e:b=(s.heap.push {cls:= .type "range",data:= .fields #[.int lo t, .int hi u, .int 1 v]}).objs.size:=by simpa using hb
  subst e
  exact I1.ql (Nat.le_refl _) (I1.hok.fresh (Nat.le_refl _))
noncomputable def lX(ta:TA):TI:=fun σ H R=>ta σ H fun vs H1=>∃j:Int,vs=[.int j]∧ -(2 ^ 62)≤j∧j < 2 ^ 62∧R (GA 0 j.toNat) H1
noncomputable def Jz(ta:TA):TI:=fun σ H R=>ta σ H fun vs H1=>∃i j:Int,vs=[.int i, .int j]∧(-(2 ^ 62)≤i∧i < 2 ^ 62∧ -(2 ^ 62)≤j∧j < 2 ^ 62)∧R (GA i (j - i).toNat) H1
theorem qE{a:Expr}{ta:TA}{p pos:Pos}(hg:Gl X "range")(hm:X.mg "range"=none)(ha:PA X [a] ta)(hs:starEach [a] X.env=[(false,eval a X.env)]:=by rfl):PI X tg (.Call (.Name "range" p) [a] [] pos) (lX ta):=by
 intro pins s σ H R I h
 refine Call_ (lI I hg hm boot_range (PyProof.Rows.callWith_type1 (dR (ha pos pins s σ H _ I h) fun us s1 ⟨vs,H1,I1,r1,q1⟩=>?_) hs rfl))
 obtain⟨j,e,q1,q2,q⟩:=q1
 subst e
 cases r1 with
 | cons r rr=>
   cases rr
   obtain⟨t,rfl⟩:=r
   exact call_range_1 (AD I1 (by omega) (by omega) q1 q2 (by simpa using q))
noncomputable def IU(wi:TI)(g:TG)(tb:TS):TS:=fun D σ H=>wi σ H fun J H1=>∃W:Nat→Nat→St→Hp→Prop,(∃m,W 0 m σ H1)∧∀i m σ H,W i m σ H→
 (J.stop i H∧D.nx σ H)∨(J.go i H∧∃N:St→Hp→Prop,(∀σ' H',N σ' H'→∃m',m' < m∧W (i+1) m' σ' H')∧∀x H',J.yld i H x H'→g x σ H' fun σ2 H2=>tb {D with nx:=N,ct:=N,bk:=D.nx} σ2 H2)
noncomputable def lJ(fp:List Addr)(h:Heap):List (Addr × Obj):=fp.filterMap fun b=>(h.get? b).map fun o=>(b,o)
theorem jt{fp:List Addr}{h:Heap}{b:Addr}{o:Obj}(hb:b∈fp)(e:h.get? b=some o):(b,o)∈lJ fp h:=List.mem_filterMap.mpr ⟨b,hb,by rw[e];rfl⟩
theorem yN{fp:List Addr}{h:Heap}{p:Addr × Obj}(hp:p∈lJ fp h):p.1∈fp∧h.get? p.1=some p.2:=by
 obtain⟨b,hb,e⟩:=List.mem_filterMap.mp hp
 cases q:h.get? b with
 | none=>rw [q] at e;cases e
 | some o=>
   rw[q] at e
   have e':(b,o)=p:=Option.some.inj e
   subst e'
   exact⟨hb,q⟩
theorem Inv.pinned{pins:List (Addr × Obj)}{σ:St}{H:Hp}{s:Shared}{fp:List Addr}(I:Inv X pins σ H s)(hf:∀b∈fp,n9 X pins H b)(ho:∀b∈fp,∃o,s.heap.get? b=some o∧∀v,o.data≠ .cell v):Inv X (pins++lJ fp s.heap) σ H s:=
 I.x3 fun p hp=>(List.mem_append.mp hp).elim (fun z=>I.pin p (List.mem_append_right _ z)) fun z=>by
  obtain⟨hb,e⟩:=yN z
  obtain⟨f0,f1,f2,_⟩:=hf p.1 hb
  obtain⟨o,e',d⟩:=ho p.1 hb
  rw[e] at e';cases e'
  exact⟨e,f0,f1,f2,d⟩
theorem Inv.ml{pins pl:List (Addr × Obj)}{σ:St}{H:Hp}{s:Shared}(I:Inv X (pins++pl) σ H s):Inv X pins σ H s:=I.x3 fun p hp=>I.pin p (List.mem_append_right _ (List.mem_append_left _ hp))
theorem vO{iter:Expr}{body:List Stmt}{wi:TI}{g:TG}{tb:TS}{pos:Pos}(hp:PassesOwn (model X.prog X.w) X.A X.env X.xe)(hc:X.calm=true)(hi:PI X tg iter wi)(hg:PG X tg g)(hb:sT X body tb)
 (hs:∀x,foldedSetIterable iter X.env x=pure x:=by intro _;rfl):PS X (.For tg iter body [] pos) (IU wi g tb):=by
 intro pins s σ H D I h
 refine wpAny_For (dR (hi pins s σ H _ I h) fun v s1 h1=>dR h1 fun itv s2 h2=>?_) hs
 obtain⟨it,fp,tn,J,H2,e,I2,T,st2,f2,W,⟨m0,w0⟩,turn⟩:=h2
 subst e
 have stat:∀{H':Hp},(∀b∈fp,H' b=none)→∀b∈fp,n9 X pins H' b:=fun hn b hb=>⟨hn b hb,(f2 b hb).2⟩
 refine codeAny_forLoop_any (fun n s'=>∃i σ' H',Inv X pins σ' H' s'∧tn i s'.heap∧(∀b∈fp,H' b=none)∧W i n σ' H') ?_ m0 ⟨0,σ,H2,I2,st2,fun b hb=>(f2 b hb).1,w0⟩
 rintro n s3 ⟨i,σ3,H3,I3,st3,fr3,w3⟩
 rcases turn i n σ3 H3 w3 with⟨stop,qn⟩ | ⟨go,N,hN,step⟩
 ·refine wpAny_passesOwn hp (dR (T.done X rfl rfl rfl hc i pins s3 σ3 H3 X.xe I3 (stat fr3) st3 stop) fun r s4 ⟨hr,I4⟩=>?_)
  subst hr
  exact wpAny_execs_nil ⟨σ3,H3,I4,qn⟩
 ·refine wpAny_passesOwn hp (dR (T.item X rfl rfl rfl hc i pins s3 σ3 H3 X.xe I3 (stat fr3) st3 go) fun r s4 ⟨u,hr,h4⟩=>?_)
  subst hr
  refine wpAny_passesOwn hp (dR h4 fun _ s5 ⟨x,H5,I5,r5,y5,st5,fr5⟩=>?_)
  have I5':=I5.pinned (stat fr5) (T.obj _ _ st5)
  refine wpAny_passesOwn hp (dR (hg _ s5 σ3 H5 x u _ I5' r5 (step x H5 y5)) fun _ s6 ⟨σ6,H6,I6,q6⟩=>?_)
  refine wpAny_passesOwn hp (dR (hb _ s6 σ6 H6 _ I6 q6) fun f s7 q7=>?_)
  have again:∀{σ7:St} {H7:Hp},Inv X (pins++lJ fp s5.heap) σ7 H7 s7→N σ7 H7→∃m,m < n∧∃i σ' H',Inv X pins σ' H' s7∧tn i s7.heap∧(∀b∈fp,H' b=none)∧W i m σ' H':=fun {σ7 H7} I7 n7=>by
   obtain⟨m',hm,w7⟩:=hN σ7 H7 n7
   refine⟨m',hm,i+1,σ7,H7,I7.ml,T.keep _ _ _ st5 fun b hb o e=>(I7.pin (b,o) (List.mem_append_right _ (List.mem_append_right _ (jt hb e)))).1,fun b hb=>?_,w7⟩
   obtain⟨o,e,d⟩:=T.obj _ _ st5 b hb
   exact(I7.pin (b,o) (List.mem_append_right _ (List.mem_append_right _ (jt hb e)))).2.1
  cases f with
  | next=>obtain⟨σ7,H7,I7,n7⟩:=q7;exact again I7 n7
  | cont=>obtain⟨σ7,H7,I7,n7⟩:=q7;exact again I7 n7
  | brk=>obtain⟨σ7,H7,I7,q7⟩:=q7;exact⟨σ7,H7,I7.ml,q7⟩
  | ret v=>obtain⟨x7,σ7,H7,I7,r7,q7⟩:=q7;exact⟨x7,σ7,H7,I7.ml,r7,q7⟩
end
end L2
namespace L2
open PySem PySem.Spec PyProof.Rows
noncomputable abbrev R2:=V→V→Hp→VK→Prop
noncomputable def jT(X:Cx)(f:Value→Value→Sem Value)(r:R2):Prop:=
 ∀(pins:List (Addr × Obj)) (s:Shared) (σ:St) (H:Hp) (x y:V) (v u:Value) (Q:VK),Inv X pins σ H s→RelV x v→RelV y u→r x y H Q→
  wpAny (model X.prog X.w) X.A (f v u) (EP X pins σ Q) X.xe s
noncomputable def Lg(X:Cx)(f:Value→Sem Value)(r:V→Hp→VK→Prop):Prop:=
 ∀(pins:List (Addr × Obj)) (s:Shared) (σ:St) (H:Hp) (x:V) (v:Value) (Q:VK),Inv X pins σ H s→RelV x v→r x H Q→
  wpAny (model X.prog X.w) X.A (f v) (EP X pins σ Q) X.xe s
noncomputable def nQ(X:Cx)(f:Value)(r:List V→Hp→VK→Prop):Prop:=
 ∀(pins:List (Addr × Obj)) (s:Shared) (σ:St) (H:Hp) (xs:List V) (us:List Value) (Q:VK),Inv X pins σ H s→Vals xs us→r xs H Q→
  wpAny (model X.prog X.w) X.A (call f us) (EP X pins σ Q) X.xe s
noncomputable def IH(X:Cx)(r:V→Hp→(Bool→Hp→Prop)→Prop):Prop:=
 ∀(pins:List (Addr × Obj)) (s:Shared) (σ:St) (H:Hp) (x:V) (v:Value) (Q:Bool→Hp→Prop),Inv X pins σ H s→RelV x v→r x H Q→
  wpAny (model X.prog X.w) X.A (truthy v) (TP X pins σ Q) X.xe s
noncomputable def Gi(r:R2)(ta tb:TE):TE:=fun σ H Q=>ta σ H fun x H1=>tb σ H1 fun y H2=>r x y H2 Q
noncomputable def Lq(r:V→Hp→VK→Prop)(ta:TE):TE:=fun σ H Q=>ta σ H fun x H1=>r x H1 Q
noncomputable def rI(C:Int→Int→Prop)(g:Int→Int→V):R2:=fun x y H Q=>∃i j,x= .int i∧y= .int j∧C i j∧Q (g i j) H
noncomputable def zX(g:Int→Int→V):R2:=fun x y H Q=>∃i j,x= .int i∧y= .int j∧Q (g i j) H
noncomputable def rU(g:Int→V):V→Hp→VK→Prop:=fun x H Q=>∃i,x= .int i∧Q (g i) H
section
variable {X:Cx} {a b c:Expr} {ta tb tc:TE} {pos:Pos}
theorem FL(ha:PE X a ta)(hb:PE X b tb){pins:List (Addr × Obj)}{s:Shared}{σ:St}{H:Hp}{R:V→V→Hp→Prop}(I:Inv X pins σ H s)
 (h:ta σ H fun x H1=>tb σ H1 fun y H2=>R x y H2) {Q:Value→Shared→Prop} {f:Value→Value→Sem Value}
 (hf:∀v u s2 x y H2,Inv X pins σ H2 s2→RelV x v→RelV y u→R x y H2→wpAny (model X.prog X.w) X.A (f v u) Q X.xe s2) :
 wpAny (model X.prog X.w) X.A (eval a X.env) (fun v s₁=>wpAny (model X.prog X.w) X.A (eval b X.env) (fun u s₂=>wpAny (model X.prog X.w) X.A (f v u) Q X.xe s₂) X.xe s₁) X.xe s:=by
 refine dR (ha pins s σ H _ I h) fun v s1 ⟨x,H1,I1,r1,q1⟩=>?_
 refine dR (hb pins s1 σ H1 _ I1 q1) fun u s2 ⟨y,H2,I2,r2,q2⟩=>?_
 exact hf v u s2 x y H2 I2 r1 r2 q2
theorem Ag{op:Operator}{r:R2}(ho:jT X (binaryOp op) r)(ha:PE X a ta)(hb:PE X b tb):PE X (.BinOp a op b pos) (Gi r ta tb):=by
 intro pins s σ H Q I h
 exact wpAny_BinOp (FL ha hb I h fun v u s2 x y H2 I2 rx ry q=>ho pins s2 σ H2 x y v u Q I2 rx ry q)
theorem Hv{f:Value→Value→Sem Value}{C:Int→Int→Prop}{g:Int→Int→Int}
 (rule:∀(i j:Int) (t u:Tok) (s:Shared) (Q:Value→Shared→Prop) (E:Value→Shared→Prop),C i j→Q (.int (g i j) s.toks) {s with toks:=s.toks+1}→wpAny (model X.prog X.w) X.A (f (.int i t) (.int j u)) Q E s) :
 jT X f (rI C fun i j=> .int (g i j)):=by
 intro pins s σ H x y v u Q I rx ry h
 obtain⟨i,j,rfl,rfl,hc,q⟩:=h
 obtain⟨t,rfl⟩:=rx
 obtain⟨t',rfl⟩:=ry
 exact rule i j t t' s _ _ hc ⟨.int (g i j),H,I.tok _,⟨_,rfl⟩,q⟩
theorem Bz{f:Value→Value→Sem Value}{g:Int→Int→Int}
 (rule:∀(i j:Int) (t u:Tok) (s:Shared) (Q:Value→Shared→Prop) (E:Value→Shared→Prop),Q (.int (g i j) s.toks) {s with toks:=s.toks+1}→wpAny (model X.prog X.w) X.A (f (.int i t) (.int j u)) Q E s) :
 jT X f (zX fun i j=> .int (g i j)):=by
 intro pins s σ H x y v u Q I rx ry h
 obtain⟨i,j,rfl,rfl,q⟩:=h
 obtain⟨t,rfl⟩:=rx
 obtain⟨t',rfl⟩:=ry
 exact rule i j t t' s _ _ ⟨.int (g i j),H,I.tok _,⟨_,rfl⟩,q⟩
theorem GJ{f:Value→Value→Sem Value}{g:Int→Int→Bool}
 (rule:∀(i j:Int) (t u:Tok) (s:Shared) (Q:Value→Shared→Prop) (E:Value→Shared→Prop),Q (.bool (g i j)) s→wpAny (model X.prog X.w) X.A (f (.int i t) (.int j u)) Q E s) :
 jT X f (zX fun i j=> .bl (g i j)):=by
 intro pins s σ H x y v u Q I rx ry h
 obtain⟨i,j,rfl,rfl,q⟩:=h
 obtain⟨t,rfl⟩:=rx
 obtain⟨t',rfl⟩:=ry
 exact rule i j t t' s _ _ ⟨.bl (g i j),H,I,rfl,q⟩
noncomputable def ID(i j:Int):Prop:=0 < j∧j < 1073741824
noncomputable def JR(i j:Int):Prop:=j≠0∧j.natAbs < 1073741824
noncomputable def IS(i j:Int):Prop:=0≤j∧j≤1000000∧i.natAbs < 2 ^ 64
noncomputable def Fc(i j:Int):Prop:=(-(2 ^ 64) < i∧i < 2 ^ 64)∨(-(2 ^ 64) < j∧j < 2 ^ 64)
theorem Fc.ok{i j:Int}(h:Fc i j):IntMulOk i j:=by
 rcases h with⟨h1,h2⟩ | ⟨h1,h2⟩
 ·exact .of_left (intBits_le_64 h1 h2)
 ·exact .of_right (intBits_le_64 h1 h2)
theorem vX(k:Nat):(0:Int)≤2 ^ k:=by
 rw[two_pow_cast]
 exact Int.natCast_nonneg _
theorem FH:jT X (binaryOp .Add) (zX fun i j=> .int (i+j)):=Bz fun _ _ _ _ _ _ _ q=>add_int q
theorem Fi:jT X (binaryOp .Sub) (zX fun i j=> .int (i - j)):=Bz fun _ _ _ _ _ _ _ q=>sub_int q
theorem F9:jT X (binaryOp .Mult) (rI Fc fun i j=> .int (i*j)):=Hv fun _ _ _ _ _ _ _ hc q=>mul_int q hc.ok
theorem Ca:jT X (binaryOp .FloorDiv) (rI ID fun i j=> .int (i / j)):=Hv fun i j _ _ _ _ _ hc q=>by
 have h1:(0:Int) < j:=hc.1
 have h2:j < 1073741824:=hc.2
 exact floordiv_int (by omega) (by rw[Int.fdiv_eq_ediv_of_nonneg i (by omega)];exact q) (.inl (PyProof.noPylong_small (by omega)))
theorem Fx:jT X (binaryOp .Mod) (rI (fun _ j=>0 < j) fun i j=> .int (i % j)):=Hv fun i j _ _ _ _ _ hc q=>by
 have h1:(0:Int) < j:=hc
 exact mod_int' (by omega) (by rw[Int.fmod_eq_emod_of_nonneg i (by omega)];exact q)
theorem EF:jT X (binaryOp .Pow) (rI IS fun i j=> .int (i ^ j.toNat)):=Hv fun _ _ _ _ _ _ _ hc q=>pow_int_small hc.1 hc.2.1 hc.2.2 q
theorem EE:jT X (binaryOp .RShift) (rI (fun _ j=>0≤j) fun i j=> .int (i / 2 ^ j.toNat)):=Hv fun i j _ _ _ _ _ hc q=>
 rshift_int hc (by rw[Int.fdiv_eq_ediv_of_nonneg i (vX _)];exact q)
theorem ED:jT X (binaryOp .BitAnd) (zX fun i j=> .int (Builtin.bitAnd i j)):=Bz fun _ _ _ _ _ _ _ q=>and_int q
theorem Hc:jT X (binaryOp .BitOr) (zX fun i j=> .int (Builtin.bitOr i j)):=Bz fun _ _ _ _ _ _ _ q=>or_int q
theorem E8:jT X (binaryOp .BitXor) (zX fun i j=> .int (Builtin.bitXor i j)):=Bz fun _ _ _ _ _ _ _ q=>xor_int q
end
noncomputable def G8:V→V→Bool
 | .cK, .cK=>true | .cK, .int _=>true | .int _, .cK=>true | .cK, .bl _=>true | .bl _, .cK=>true | .cK, .str _=>true | .str _, .cK=>true
 | .int _, .int _=>true | .bl _, .bl _=>true | .str _, .str _=>true | .byt _, .byt _=>true
 | .int _, .str _=>true | .str _, .int _=>true | .bl _, .str _=>true | .str _, .bl _=>true
 | _,_=>false
noncomputable def Ko:R2:=fun x y H Q=>G8 x y=true∧Q (.bl (decide (x=y))) H
noncomputable def Kd:R2:=fun x y H Q=>G8 x y=true∧Q (.bl (!decide (x=y))) H
theorem xq{i j:Int}:decide (V.int i=V.int j)=(i==j):=by
 rw[Bool.eq_iff_iff]
 simp
theorem zT{i j:Bool}:decide (V.bl i=V.bl j)=(i==j):=by
 rw[Bool.eq_iff_iff]
 simp
theorem xw{i j:Str}:decide (V.str i=V.str j)=(i==j):=by
 rw[Bool.eq_iff_iff]
 simp
theorem xr{i j:Array UInt8}:decide (V.byt i=V.byt j)=(i.toList==j.toList):=by
 rw[Bool.eq_iff_iff]
 cases i
 cases j
 simp
section
variable {X:Cx} {a b c:Expr} {ta tb tc:TE} {pos:Pos}
theorem bL{pins:List (Addr × Obj)}{σ:St}{H:Hp}{s:Shared}{Q:VK}{k k':Bool}(I:Inv X pins σ H s)(q:Q (.bl k) H)(e:k=k'):EP X pins σ Q (.bool k') s:=by
 subst e
 exact⟨.bl k,H,I,rfl,q⟩
theorem Ac:jT X (compareOp .Eq) Ko:=by
 intro pins s σ H x y v u Q I rx ry h
 obtain⟨hs,q⟩:=h
 cases x with
 | cK=>
   cases rx
   cases y with
   | cK=>cases ry;exact PySem.EqNone.eq_none_none (bL I q (by simp))
   | bl j=>cases ry;exact PySem.EqNone.eq_none_bool (bL I q (by simp))
   | int j=>obtain⟨t',rfl⟩:=ry;exact PySem.EqNone.eq_none_int (bL I q (by simp))
   | str j=>obtain⟨t',rfl⟩:=ry;exact PySem.EqNone.eq_none_str (bL I q (by simp))
   | _=>exact absurd (show false=true from hs) Bool.false_ne_true
 | bl i=>
   cases rx
   cases y with
   | cK=>cases ry;exact PySem.EqNone.eq_bool_none (bL I q (by simp))
   | bl j=>cases ry;exact eq_bool (bL I q zT)
   | str j=>obtain⟨t',rfl⟩:=ry;exact PySem.EqMixed.eq_bool_str (bL I q (by simp))
   | _=>exact absurd (show false=true from hs) Bool.false_ne_true
 | int i=>
   obtain⟨t,rfl⟩:=rx
   cases y with
   | cK=>cases ry;exact PySem.EqNone.eq_int_none (bL I q (by simp))
   | int j=>obtain⟨t',rfl⟩:=ry;exact eq_int (bL I q xq)
   | str j=>obtain⟨t',rfl⟩:=ry;exact PySem.EqMixed.eq_int_str (bL I q (by simp))
   | _=>exact absurd (show false=true from hs) Bool.false_ne_true
 | str i=>
   obtain⟨t,rfl⟩:=rx
   cases y with
   | cK=>cases ry;exact PySem.EqNone.eq_str_none (bL I q (by simp))
   | bl j=>cases ry;exact PySem.EqMixed.eq_str_bool (bL I q (by simp))
   | int j=>obtain⟨t',rfl⟩:=ry;exact PySem.EqMixed.eq_str_int (bL I q (by simp))
   | str j=>obtain⟨t',rfl⟩:=ry;exact eq_str (bL I q xw)
   | _=>exact absurd (show false=true from hs) Bool.false_ne_true
 | byt i=>
   obtain⟨t,rfl⟩:=rx
   cases y with
   | byt j=>obtain⟨t',rfl⟩:=ry;exact PySem.W.eq_bytes (bL I q xr)
   | _=>exact absurd (show false=true from hs) Bool.false_ne_true
 | _=>cases y <;> exact absurd (show false=true from hs) Bool.false_ne_true
theorem Bk:jT X (compareOp .NotEq) Kd:=by
 intro pins s σ H x y v u Q I rx ry h
 obtain⟨hs,q⟩:=h
 cases x with
 | cK=>
   cases rx
   cases y with
   | cK=>cases ry;exact PySem.EqNone.ne_none_none (bL I q (by simp))
   | bl j=>cases ry;exact PySem.EqNone.ne_none_bool (bL I q (by simp))
   | int j=>obtain⟨t',rfl⟩:=ry;exact PySem.EqNone.ne_none_int (bL I q (by simp))
   | str j=>obtain⟨t',rfl⟩:=ry;exact PySem.EqNone.ne_none_str (bL I q (by simp))
   | _=>exact absurd (show false=true from hs) Bool.false_ne_true
 | bl i=>
   cases rx
   cases y with
   | cK=>cases ry;exact PySem.EqNone.ne_bool_none (bL I q (by simp))
   | bl j=>cases ry;exact ne_bool (bL I q (congrArg not zT))
   | str j=>obtain⟨t',rfl⟩:=ry;exact PySem.EqMixed.ne_bool_str (bL I q (by simp))
   | _=>exact absurd (show false=true from hs) Bool.false_ne_true
 | int i=>
   obtain⟨t,rfl⟩:=rx
   cases y with
   | cK=>cases ry;exact PySem.EqNone.ne_int_none (bL I q (by simp))
   | int j=>obtain⟨t',rfl⟩:=ry;exact ne_int (bL I q (congrArg not xq))
   | str j=>obtain⟨t',rfl⟩:=ry;exact PySem.EqMixed.ne_int_str (bL I q (by simp))
   | _=>exact absurd (show false=true from hs) Bool.false_ne_true
 | str i=>
   obtain⟨t,rfl⟩:=rx
   cases y with
   | cK=>cases ry;exact PySem.EqNone.ne_str_none (bL I q (by simp))
   | bl j=>cases ry;exact PySem.EqMixed.ne_str_bool (bL I q (by simp))
   | int j=>obtain⟨t',rfl⟩:=ry;exact PySem.EqMixed.ne_str_int (bL I q (by simp))
   | str j=>obtain⟨t',rfl⟩:=ry;exact ne_str (bL I q (congrArg not xw))
   | _=>exact absurd (show false=true from hs) Bool.false_ne_true
 | byt i=>
   obtain⟨t,rfl⟩:=rx
   cases y with
   | byt j=>obtain⟨t',rfl⟩:=ry;exact PySem.W.ne_bytes (bL I q (congrArg not xr))
   | _=>exact absurd (show false=true from hs) Bool.false_ne_true
 | _=>cases y <;> exact absurd (show false=true from hs) Bool.false_ne_true
theorem HI:jT X (compareOp .Gt) (zX fun i j=> .bl (decide (j < i))):=GJ fun _ _ _ _ _ _ _ q=>gt_int q
theorem Ha:jT X (compareOp .GtE) (zX fun i j=> .bl (decide (j≤i))):=GJ fun _ _ _ _ _ _ _ q=>ge_int q
theorem y7:jT X (compareOp .In) (fun x y H Q=>∃i j,x= .str i∧y= .str j∧Q (.bl (!(Builtin.Str.occurrences j i 0 j.length 1).isEmpty)) H):=by
 intro pins s σ H x y v u Q I rx ry h
 obtain⟨i,j,rfl,rfl,q⟩:=h
 obtain⟨t,rfl⟩:=rx
 obtain⟨t',rfl⟩:=ry
 exact in_str (bL I q rfl)
theorem Ce:jT X (compareOp .IsNot) (fun x y H Q=>y= .cK∧Q (.bl (!decide (x= .cK))) H):=by
 intro pins s σ H x y v u Q I rx ry h
 obtain⟨rfl,q⟩:=h
 cases ry
 refine isnot_none_gen (bL I q ?_)
 cases x <;> first
  | (cases rx;rfl)
  | (obtain⟨t,rfl⟩:=rx;rfl)
theorem rJ:jT X (compareOp .NotIn) (fun x y H Q=>∃i j,x= .str i∧y= .str j∧Q (.bl (!(!(Builtin.Str.occurrences j i 0 j.length 1).isEmpty))) H):=by
 intro pins s σ H x y v u Q I rx ry h
 obtain⟨i,j,rfl,rfl,q⟩:=h
 obtain⟨t,rfl⟩:=rx
 obtain⟨t',rfl⟩:=ry
 exact notIn_str (bL I q rfl)
noncomputable def isObj:HO→Bool
 | .lst _=>true
 | .ins _ _ _=>true
 | _=>false
theorem cv(b:Expr){op:CmpOp}(h:op≠ .In:=by decide)(h2:op≠ .NotIn:=by decide):behindInMarks op b=false:=by
 have e1:(op==CmpOp.In)=false:=by cases op <;> first | rfl | exact absurd rfl h
 have e2:(op==CmpOp.NotIn)=false:=by cases op <;> first | rfl | exact absurd rfl h2
 cases b <;> simp [behindInMarks,e1,e2]
theorem xv{op:CmpOp}{r:R2}(ho:jT X (compareOp op) r)(ha:PE X a ta)(hb:PE X b tb)(hm:behindInMarks op b=false):PE X (.Compare a [op] [b] pos) (Gi r ta tb):=by
 intro pins s σ H Q I h
 exact wpAny_Compare1 (FL ha hb I h fun v u s2 x y H2 I2 rx ry q=>ho pins s2 σ H2 x y v u Q I2 rx ry q) hm
noncomputable def Hr(t:TE):TT:=fun σ H Q=>t σ H fun x H'=>∃k,x= .bl k∧Q k H'
theorem xn{op:CmpOp}{r:R2}(ho:jT X (compareOp op) r)(ha:PE X a ta)(hb:PE X b tb)(hm:behindInMarks op b=false):PT X (.Compare a [op] [b] pos) (Hr (Gi r ta tb)):=by
 intro pins s σ H Q I h
 refine wpAny_isTrue_Compare1 (dR (ha pins s σ H _ I h) fun v s1 ⟨x,H1,I1,r1,q1⟩=>dR (hb pins s1 σ H1 _ I1 q1) fun u s2 ⟨y,H2,I2,r2,q2⟩=>
  dR (ho pins s2 σ H2 x y v u _ I2 r1 r2 q2) fun c s3 ⟨z,H3,I3,r3,k,e,q3⟩=>?_) hm
 subst e
 cases r3
 exact wpAny_truthy_bool ⟨H3,I3,q3⟩
noncomputable def IX(r r':R2)(ta tb tc:TE):TE:=fun σ H Q=>ta σ H fun x H1=>tb σ H1 fun y H2=>r x y H2 fun z H3=>∃k,z= .bl k∧
 (if k=true then tc σ H3 fun w' H4=>r' y w' H4 Q else Q (.bl false) H3)
noncomputable def CM(K:PySem.W.Frag)(x:V)(H:Hp)(k:Bool):Prop:=
 match x with
 | .cK=>k=false
 | .bl b=>k=b
 | .int i=>k=(i !=0)
 | .str y=>y.length≤sizeLine∧k=((y.length:Int) !=0)
 | .byt y=>y.size≤sizeLine∧k=((y.size:Int) !=0)
 | .ref p=>(∃xs,kZ K H p xs∧k=!xs.isEmpty)∨(∃xs,nV K H p xs∧k=!xs.isEmpty)∨∃kvs,H p=some (.dK kvs)∧k=!kvs.isEmpty
 | _=>False
theorem vU{κ:Type}{kvs:List (κ × V)}{vs:List (κ × Value)}(r:KV kvs vs):(!vs.isEmpty)=!kvs.isEmpty:=by
 cases r <;> rfl
theorem oG{xs:List V}{its:List Value}(r:Vals xs its):(!its.toArray.isEmpty)=!xs.isEmpty:=by
 cases r <;> simp
theorem nc:(sizeLine:Nat) < 2 ^ 63:=by rw[sizeLine_eq];decide
theorem Fm:IH X (fun x H Q=>∃k,CM X.K x H k∧Q k H):=by
 intro pins s σ H x v Q I rx h
 obtain⟨k,e,q⟩:=h
 have hl:=nc
 have hs:sizeLine=16777216:=sizeLine_eq
 cases x with
 | cK=>
   cases rx
   have e':k=false:=e
   subst e'
   exact truthy_none ⟨H,I,q⟩
 | bl b=>
   cases rx
   have e':k=b:=e
   subst e'
   exact wpAny_truthy_bool ⟨H,I,q⟩
 | int i=>
   obtain⟨t,rfl⟩:=rx
   have e':k=(i !=0):=e
   subst e'
   exact PySem.P.truthy_int ⟨H,I,q⟩
 | str y=>
   obtain⟨t,rfl⟩:=rx
   obtain⟨hy,e'⟩:y.length≤sizeLine∧k=((y.length:Int) !=0):=e
   subst e'
   exact PySem.P.truthy_str (by omega) ⟨H,I.tok _,q⟩
 | byt y=>
   obtain⟨t,rfl⟩:=rx
   obtain⟨hy,e'⟩:y.size≤sizeLine∧k=((y.size:Int) !=0):=e
   subst e'
   exact PySem.W.truthy_bytes (by omega) ⟨H,I.tok _,q⟩
 | ref p=>
   cases rx
   have e':(∃xs,kZ X.K H p xs∧k=!xs.isEmpty)∨(∃xs,nV X.K H p xs∧k=!xs.isEmpty)∨∃kvs,H p=some (.dK kvs)∧k=!kvs.isEmpty:=e
   rcases e' with⟨xs,hx,e'⟩ | ⟨xs,hx,e'⟩ | ⟨kvs,hx,e'⟩
   ·subst e'
    obtain⟨its,r,pl,hz⟩:=I.list hx
    have hlen:=r.length
    exact wpAny_truthy_list pl.isList (by simp only[List.size_toArray];omega) ⟨H,I.tok _,by rw[oG r];exact q⟩
   ·subst e'
    obtain⟨its,r,pl,hz⟩:=I.tuple hx
    have hlen:=r.length
    exact truthy_tuple pl (by simp only[List.size_toArray];omega) ⟨H,I.tok _,by rw[oG r];exact q⟩
   ·subst e'
    obtain⟨hz,hS,vs,r,m⟩:kvs.length≤sizeLine∧(p==sysModules)=false∧∃vs,KV kvs vs∧s.heap.DictOf (df X.prog X.w) p vs:=I.hok p _ hx
    have hlen:kvs.length=vs.length:=Paired.length r
    exact wpAny_truthy_dict hS m (by omega) ⟨H,I.tok _,by rw[vU r];exact q⟩
 | _=>exact(show False from e).elim
theorem uV(ha:PE X a ta)(he:∀whole,isTrue a X.env whole=(do let v ←whole;standAt a.pos;holding [v] (truthy v))) :
 PT X a (fun σ H Q=>ta σ H fun x H'=>∃k,CM X.K x H' k∧Q k H'):=by
 intro pins s σ H Q I h
 exact isTrue_plain (dR (ha pins s σ H _ I h) fun v s1 ⟨x,H1,I1,r1,q1⟩=>Fm pins s1 σ H1 x v Q I1 r1 q1) (he _)
theorem we:jT X (binaryOp .Add) (fun x y H Q=>∃i j,x= .str i∧y= .str j∧i.length+j.length≤sizeLine∧Q (.str (i++j)) H):=by
 intro pins s σ H x y v u Q I rx ry h
 obtain⟨i,j,rfl,rfl,hz,q⟩:=h
 obtain⟨t,rfl⟩:=rx
 obtain⟨t',rfl⟩:=ry
 exact add_str (fun t' tk=>⟨.str (i++j),H,I.tok _,⟨_,rfl⟩,q⟩) hz
noncomputable def GK(b:Expr):Prop:=∀o i,subscripted b false o i=operate [o,i] (getItem o i)
theorem vals1{x:V}{us:List Value}(r:Vals [x] us):∃u,us=[u]∧RelV x u:=by
 cases r with
 | cons r1 r2=>cases r2;exact⟨_,rfl,r1⟩
theorem vals2{x y:V}{us:List Value}(r:Vals [x,y] us):∃u w',us=[u,w']∧RelV x u∧RelV y w':=by
 cases r with
 | cons r1 r2=>
   cases r2 with
   | cons r3 r4=>cases r4;exact⟨_,_,rfl,r1,r3⟩
theorem yP(hc:X.calm=true):nQ X (.builtin "min") (fun xs H Q=>∃i j,xs=[.int i, .int j]∧Q (.int (if j < i then j else i)) H):=by
 intro pins s σ H xs us Q I r h
 obtain⟨i,j,rfl,q⟩:=h
 obtain⟨u,w',rfl,⟨t,rfl⟩,⟨t',rfl⟩⟩:=vals2 r
 refine min_two_ints (I.ok.hd hc) fun h' tk k=>⟨_,H,I.kept k,?_,q⟩
 by_cases hj:j < i
 ·rw[if_pos hj,if_pos hj];exact⟨_,rfl⟩
 ·rw[if_neg hj,if_neg hj];exact⟨_,rfl⟩
noncomputable def Jr(K:PySem.W.Frag)(x:V)(H:Hp)(n:Nat):Prop:=
 match x with
 | .str y=>y.length≤sizeLine∧n=y.length
 | .byt y=>y.size≤sizeLine∧n=y.size
 | .ref p=>(∃xs,kZ K H p xs∧n=xs.length)∨∃xs,nV K H p xs∧n=xs.length
 | _=>False
theorem Bo:nQ X (.builtin "len") (fun xs H Q=>∃x n,xs=[x]∧Jr X.K x H n∧Q (.int n) H):=by
 intro pins s σ H xs us Q I r h
 obtain⟨x,n,rfl,e,q⟩:=h
 obtain⟨u,rfl,rx⟩:=vals1 r
 have hl:=nc
 have hs:sizeLine=16777216:=sizeLine_eq
 cases x with
 | str y=>
   obtain⟨t,rfl⟩:=rx
   obtain⟨hy,e'⟩:y.length≤sizeLine∧n=y.length:=e
   subst e'
   exact len_str (by omega) ⟨.int _,H,I.tok _,⟨_,rfl⟩,q⟩
 | byt y=>
   obtain⟨t,rfl⟩:=rx
   obtain⟨hy,e'⟩:y.size≤sizeLine∧n=y.size:=e
   subst e'
   exact PySem.W.len_bytes (by omega) ⟨.int _,H,I.tok _,⟨_,rfl⟩,q⟩
 | ref p=>
   cases rx
   have e':(∃xs,kZ X.K H p xs∧n=xs.length)∨∃xs,nV X.K H p xs∧n=xs.length:=e
   rcases e' with⟨xs,hx,e'⟩ | ⟨xs,hx,e'⟩
   ·subst e'
    obtain⟨its,r',pl,hz⟩:=I.list hx
    have hlen:=r'.length
    exact Calls.call_len_list pl.isList (by simp only[List.size_toArray];omega) ⟨.int xs.length,H,I.tok _,⟨_,by simp only[List.size_toArray];rw [hlen]⟩,q⟩
   ·subst e'
    obtain⟨its,r',pl,hz⟩:=I.tuple hx
    have hlen:=r'.length
    exact len_tuple pl (by simp only[List.size_toArray];omega) ⟨.int xs.length,H,I.tok _,⟨_,by simp only[List.size_toArray];rw [hlen]⟩,q⟩
 | _=>exact(show False from e).elim
end
end L2
namespace L2
open PySem PySem.Spec PyProof.Rows
structure wG (h:Heap) (x dx C:Addr) (mA:Str→Option Value):Prop where
 obj:h.get? x=some (PySem.W.instObj C dx)
 ns:h.Ns1 dx mA
 ne:dx≠x
theorem ze{h:Heap}{dx:Addr}{mA:Str→Option Value}(n:h.Ns1 dx mA):∃od,h.get? dx=some od∧∀name,PySem.W.lookIn name od=some (mA name):=by
 obtain⟨o,es,ep,ho,hd,hk,_,hm⟩:=n
 refine⟨o,ho,fun name=>?_⟩
 have e:=hm name
 unfold nsFind findBy at e
 rw[←Array.find?_toList] at e
 unfold PySem.W.lookIn
 rw[hd]
 dsimp only
 split
 ·rename_i y q
  rw[q] at e
  exact congrArg some e
 ·rename_i q
  rw[q] at e
  have a:es.toList.any (·.refKey)=false:=by
   rw[List.any_eq_false]
   intro y hy
   obtain⟨z,t,hkey⟩:=hk y (Array.mem_toList_iff.mp hy)
   simp [DictEntry.refKey,hkey]
  have a':¬es.toList.any (·.refKey)=true:=by rw[a];exact Bool.false_ne_true
  rw[if_neg a']
  exact congrArg some e
theorem wG.look{h:Heap}{x dx C:Addr}{mA:Str→Option Value}(I:wG h x dx C mA):∃od,PySem.W.InstAt h x (PySem.W.instObj C dx) C (some od)∧∀name,PySem.W.lookIn name od=some (mA name):=
 let⟨od,ho,hl⟩:=ze I.ns
 ⟨od,⟨I.obj,rfl,rfl,ho⟩,hl⟩
section
variable {prog:Program} {w:World} {A:Around} {E:Value→Shared→Prop} {s:Shared} {K:PySem.W.Frag} {x dx C f:Addr} {mA:Str→Option Value} {name:Str} {v:Value}
theorem get_map{expr:Bool}{Q:Value→Shared→Prop}(X:K.In s.heap)(I:wG s.heap x dx C mA)(hg:PySem.W.plainGet K C name=true)(hh:PySem.W.hasDictIn K C=true)
 (ha:PySem.W.findIn K (.ref C) name=some none) (hv:mA name=some v) (hv':PySem.W.handedIn v=true) (h:Q v {s with toks:=s.toks+1}) :
 wpAny (model prog w) A (getAttr (.ref x) name expr) Q E s:=by
 obtain⟨od,J,hl⟩:=I.look
 exact PySem.W.get_value X J (PySem.W.plainGet_of hg).1 (PySem.W.findObj_own hh ha rfl (by rw[hl,hv])) hv' h
theorem A_{pl:Sem Bool}{Q:Value × List Value→Shared→Prop}(X:K.In s.heap)(I:wG s.heap x dx C mA)(hg:PySem.W.plainGet K C name=true)
 (hf:PySem.W.findIn K (.ref C) name=some (some (.ref f))) (ht:PySem.W.isFn K (.ref f)=true) (hv:mA name=none) (h:Q (.ref f,[.ref x]) s) :
 wpAny (model prog w) A (getMethod (.ref x) name pl) Q E s:=by
 obtain⟨od,J,hl⟩:=I.look
 exact PySem.W.method_fn X J (PySem.W.plainGet_of hg).1 (PySem.W.plainGet_of hg).2 hf (beq_iff_eq.mp ht) (by show(PySem.W.lookIn name od).map (·.isSome)=some false;rw [hl,hv];rfl) h
theorem B0{ns:List Str}{Q:Unit→Shared→Prop}(X:K.In s.heap)(I:wG s.heap x dx C mA)
 (hs:PySem.W.findIn K (.ref C) "__setattr__"=some (some (.builtin "object.__setattr__"))) (hp:PySem.W.plainOver K C=true) (ht:PySem.W.takerIn K C name=some none) (hh:PySem.W.hasDictIn K C=true)
 (hw:PySem.Within mA ns) (hsz:ns.length≤sizeLine)
 (h:∀h',wG h' x dx C (fun y=>if y=name then some v else mA y)→Heap.SameBut dx s.heap h'→Q () {s with heap:=h',toks:=s.toks+2}) :
 wpAny (model prog w) A (setAttr (.ref x) name v) Q E s:=by
 obtain⟨od,J,hl⟩:=I.look
 refine PySem.W.set_plain X J hs (PySem.W.osa_open (s:={s with toks:=s.toks+1}) (r:=none) X J hp ht fun b=>?_)
 obtain⟨cd,hc,hd'⟩:=PySem.W.any_some hh
 have hx:s.heap.get? x=some ⟨.ref C,some dx, .plain,#[]⟩:=I.obj
 refine wpAny_bind (wpAny_pure (wpAny_bind (wpAny_bind (wpAny_loadPart hx (wpAny_bind (PySem.W.Looks.here (s:={s with toks:=s.toks+1}) (PySem.W.looks_clsIn X hc) ?_))))))
 rw[hd']
 refine wpAny_pure (a:=some dx) (wpAny_bind (wpAny_pure (wpAny_bind ?_)))
 refine wpAny_nsSet1 (s:={s with toks:=s.toks+1}) I.ns fun h' hn2 hs2=>?_
 obtain⟨oD,esD,epD,hoD,hdD,hcD⟩:=hn2.count (PySem.Within.cons name v hw)
 refine wpAny_bind (wpAny_lookBehind hoD (by rw[hdD];exact pastItsLine_dict (Nat.le_trans hcD (by rw[List.length_cons];omega))) ?_)
 exact wpAny_pure (h _ ⟨(hs2.2 _ (Ne.symm I.ne)).trans I.obj,hn2,I.ne⟩ hs2)
theorem Ba{R:Result→Shared→Prop}{vs:List Value}{kw:List (Str × Value)}(X:K.In s.heap)(hm:PySem.W.makesIn K C=true)
 (hi:PySem.W.findIn K (.ref C) "__init__"=some (some (.ref f))) (hf:PySem.W.typeIn K (.ref f)=some (.type "function"))
 (h:codeAny (model prog w) (A.under (.builtin "type.__call__" ⟨.ref C ::vs,kw⟩)) (.call (.ref f) ⟨.ref (s.heap.objs.size+1) ::vs,kw⟩) (PySem.W.InitBack (s.heap.objs.size+1) R)
   {s with heap:=(s.heap.push PySem.W.emptyDict).push (PySem.W.instObj C s.heap.objs.size)}) :
 codeAny (model prog w) A (.call (.ref C) ⟨vs,kw⟩) R s:=by
 obtain⟨hh,g,d,t,os⟩:=s
 exact PySem.W.make_core (PySem.W.makes_of X hm) (PySem.W.looks_findIn X hi) (fun self=>PySem.W.bind_fn X self hf) (.inl rfl) h
end
noncomputable def iX(f:Str)(v:V):List (Str × V)→List (Str × V)
 | []=>[(f,v)]
 | (g,x) ::r=>if g=f then(g,v) ::r else(g,x) ::iX f v r
theorem nU(f g:Str)(v:V):∀fs:List (Str × V),(iX f v fs).lookup g=if g=f then some v else fs.lookup g
 | []=>by
   show List.lookup g [(f,v)]=_
   by_cases h:g=f
   ·have hb:(g==f)=true:=beq_iff_eq.mpr h
    simp only[List.lookup,hb,if_pos h]
   ·have hb:(g==f)=false:=beq_eq_false_iff_ne.mpr h
    simp only[List.lookup,hb,if_neg h]
 | (k,x) ::r=>by
   have ih:=nU f g v r
   rw[show iX f v ((k,x) ::r)=(if k=f then(k,v) ::r else(k,x) ::iX f v r) from rfl]
   by_cases hk:k=f
   ·rw[if_pos hk]
    by_cases h:g=k
    ·have hb:(g==k)=true:=beq_iff_eq.mpr h
     simp only[List.lookup,hb,if_pos (h.trans hk)]
    ·have hb:(g==k)=false:=beq_eq_false_iff_ne.mpr h
     simp only[List.lookup,hb,if_neg (fun e:g=f=>h (e.trans hk.symm))]
   ·rw[if_neg hk]
    by_cases h:g=k
    ·have hb:(g==k)=true:=beq_iff_eq.mpr h
     simp only[List.lookup,hb,if_neg (fun e:g=f=>hk (h.symm.trans e))]
    ·have hb:(g==k)=false:=beq_eq_false_iff_ne.mpr h
     simp only[List.lookup,hb]
     exact ih
theorem mV(f:Str)(v:V):∀fs:List (Str × V),f∈(iX f v fs).map (·.1)∧∀g,g∈fs.map (·.1)→g∈(iX f v fs).map (·.1)
 | []=>⟨by simp [iX],fun g h=>by simp at h⟩
 | (k,x) ::r=>by
   obtain⟨i1,i2⟩:=mV f v r
   rw[show iX f v ((k,x) ::r)=(if k=f then(k,v) ::r else(k,x) ::iX f v r) from rfl]
   by_cases hk:k=f
   ·rw[if_pos hk]
    subst hk
    exact⟨by simp,fun g h=>by simpa using h⟩
   ·rw[if_neg hk]
    refine⟨?_,fun g h=>?_⟩
    ·rw[List.map_cons]
     exact List.mem_cons_of_mem _ i1
    ·rw[List.map_cons] at h ⊢
     rcases List.mem_cons.mp h with e | e
     ·exact List.mem_cons.mpr (.inl e)
     ·exact List.mem_cons_of_mem _ (i2 g e)
theorem nG(f:Str)(v:V):∀fs:List (Str × V),(iX f v fs).length≤fs.length+1
 | []=>by simp [iX]
 | (k,x) ::r=>by
   have ih:=nG f v r
   rw[show iX f v ((k,x) ::r)=(if k=f then(k,v) ::r else(k,x) ::iX f v r) from rfl]
   by_cases hk:k=f
   ·rw[if_pos hk,List.length_cons,List.length_cons];omega
   ·rw[if_neg hk,List.length_cons,List.length_cons];omega
theorem mv.some_of{v:V}{o:Option Value}(r:mv (some v) o):∃u,o=some u∧RelV v u:=by
 cases o with
 | none=>exact(show False from r).elim
 | some u=>exact⟨u,rfl,r⟩
theorem mv.none_of{o:Option Value}(r:mv none o):o=none:=by
 cases o with
 | none=>rfl
 | some u=>exact(show False from r).elim
theorem yA{v:V}{u:Value}(r:RelV v u):PySem.W.handedIn u=true:=by
 cases v with
 | cK=>cases(show u=Value.none from r);rfl
 | bl b=>cases(show u=Value.bool b from r);rfl
 | int i=>obtain⟨t,e⟩:=(show ∃t,u=Value.int i t from r);cases e;rfl
 | str x=>obtain⟨t,e⟩:=(show ∃t,u=Value.str x t from r);cases e;rfl
 | byt b=>obtain⟨t,e⟩:=(show ∃t,u=Value.bytes b t from r);cases e;rfl
 | flt b=>obtain⟨t,e⟩:=(show ∃t,u=Value.float b t from r);cases e;rfl
 | ref a=>cases(show u=Value.ref a from r);rfl
 | ty n=>cases(show u=Value.type n from r);rfl
section
variable {P:Program} {w:World} {H H':Hp} {h h':Heap} {a C dx:Addr} {fs fs':List (Str × V)}
theorem sM(hok:k3 P w H h)(e:H a=some (.ins C dx fs)):∃mA,wG h a dx C mA∧(∀f,mv (fs.lookup f) (mA f))∧PySem.Within mA (fs.map (·.1))∧fs.length≤1000∧H dx=some (.own a):=by
 obtain⟨d,z,ne,ob,mA,n,r,q⟩:=(show d5 P w H h a (.ins C dx fs) from hok a _ e)
 exact⟨mA,⟨ob,n,ne⟩,r,q,z,d⟩
end
structure sW (K:PySem.W.Frag) (C:Addr):Prop where
 pg:PySem.W.plainGet K C Str.empty=true
 hd:PySem.W.hasDictIn K C=true
 po:PySem.W.plainOver K C=true
 sa:PySem.W.findIn K (.ref C) "__setattr__"=some (some (.builtin "object.__setattr__"))
theorem sW.get{K:PySem.W.Frag}{C:Addr}(c:sW K C)(f:Str):PySem.W.plainGet K C f=true:=c.pg
noncomputable def cT(K:PySem.W.Frag)(C:Addr)(f:Str):Prop:=PySem.W.findIn K (.ref C) f=some none
theorem cT.Hh{K:PySem.W.Frag}{C:Addr}{f:Str}(n:cT K C f):PySem.W.takerIn K C f=some none:=by
 unfold PySem.W.takerIn
 rw[show PySem.W.findIn K (.ref C) f=some none from n]
 rfl
structure KU (K:PySem.W.Frag) (C:Addr) (f:Str) (v:V) (u:Value):Prop where
 at_:PySem.W.findIn K (.ref C) f=some (some u)
 rel:RelV v u
 get:PySem.W.specialIn K u "__get__"=some none
 cp:PySem.W.copiedNames.contains f=false
structure Meth (K:PySem.W.Frag) (C:Addr) (m:Str) (f:Addr):Prop where
 at_:PySem.W.findIn K (.ref C) m=some (some (.ref f))
 fn:PySem.W.isFn K (.ref f)=true
 kp:PySem.W.keepIn K (.ref f)=true
section
variable {X:Cx} {pins:List (Addr × Obj)} {σ:St} {H:Hp} {s:Shared} {a C dx:Addr} {fs:List (Str × V)} {f:Str} {v:V} {A:Around} {E:Value→Shared→Prop}
theorem wF{b:Bool}{Q:Value→Shared→Prop}(I:Inv X pins σ H s)(e:H a=some (.ins C dx fs))(c:sW X.K C)(n:cT X.K C f)(l:fs.lookup f=some v)
 (h:∀u s',Inv X pins σ H s'→RelV v u→Q u s'):wpAny (model X.prog X.w) A (getAttr (.ref a) f b) Q E s:=by
 obtain⟨mA,O,r,_,_,_⟩:=sM I.hok e
 obtain⟨u,hu,ru⟩:=mv.some_of (v:=v) (o:=mA f) (by rw[←l];exact r f)
 exact get_map I.xt O (c.get f) c.hd n hu (yA ru) (h u _ (I.tok _) ru)
theorem vT{m:Str}{g:Addr}{pl:Sem Bool}{Q:Value × List Value→Shared→Prop}(I:Inv X pins σ H s)(e:H a=some (.ins C dx fs))(c:sW X.K C)(k:Meth X.K C m g)(l:fs.lookup m=none)
 (h:Q (.ref g,[.ref a]) s):wpAny (model X.prog X.w) A (getMethod (.ref a) m pl) Q E s:=by
 obtain⟨mA,O,r,_,_,_⟩:=sM I.hok e
 have hn:mA m=none:=mv.none_of (by rw[←l];exact r m)
 exact A_ I.xt O (c.get m) k.at_ k.fn hn h
theorem vq{y:V}{u:Value}{Q:Unit→Shared→Prop}(I:Inv X pins σ H s)(e:H a=some (.ins C dx fs))(c:sW X.K C)(n:cT X.K C f)(hl:fs.length < 1000)(ry:RelV y u)
 (h:∀s',Inv X pins σ (upd H a (.ins C dx (iX f y fs))) s'→Q () s'):wpAny (model X.prog X.w) A (setAttr (.ref a) f u) Q E s:=by
 obtain⟨mA,O,r,wi,_,ho⟩:=sM I.hok e
 have hz:(fs.map (·.1)).length≤sizeLine:=by rw[List.length_map,sizeLine_eq];omega
 refine B0 I.xt O c.sa c.po n.Hh c.hd wi hz fun h' O' sb=>h _ ?_
 have hd:∃o,h'.get? dx=some o:=let⟨o,_,_,e',_⟩:=O'.ns;⟨o,e'⟩
 refine I.write (x:=a) (e:=dx) (by rw[e];exact True.intro) (.inr ho) (fun b q hb z=>(sb.2 b hb).trans z) hd ?_
 refine⟨by rw[bc O.ne];exact ho,?_,O.ne,O'.obj,_,O'.ns,fun g=>?_,fun g hg=>?_⟩
 ·have:=nG f y fs;omega
 ·show mv ((iX f y fs).lookup g) (if g=f then some u else mA g)
  rw[nU]
  by_cases q:g=f
  ·rw[if_pos q,if_pos q];exact ry
  ·rw[if_neg q,if_neg q];exact r g
 ·by_cases q:g=f
  ·rw[q];exact(mV f y fs).1
  ·refine(mV f y fs).2 g (wi g fun z=>hg ?_)
   show(if g=f then some u else mA g)=none
   rw[if_neg q];exact z
theorem Inv.made(I:Inv X pins σ H s):Inv X pins σ (upd (upd H s.heap.objs.size (.own (s.heap.objs.size+1))) (s.heap.objs.size+1) (.ins C s.heap.objs.size []))
 {s with heap:=(s.heap.push PySem.W.emptyDict).push (PySem.W.instObj C s.heap.objs.size)}:=by
 have e1:(s.heap.push PySem.W.emptyDict).get? s.heap.objs.size=some PySem.W.emptyDict:=Heap.get?_push_size s.heap rfl
 have e2:((s.heap.push PySem.W.emptyDict).push (PySem.W.instObj C s.heap.objs.size)).get? (s.heap.objs.size+1)=some (PySem.W.instObj C s.heap.objs.size):=by
  have:=Heap.get?_push_size (s.heap.push PySem.W.emptyDict) (o:=PySem.W.instObj C s.heap.objs.size) rfl
  rwa [Heap.size_push] at this
 have e3:(s.heap.push PySem.W.emptyDict).Ns s.heap.objs.size (fun _=>none):=⟨PySem.W.emptyDict,#[],_,e1,rfl,(fun e he=>absurd he (by simp)),fun _=>rfl⟩
 have I1:=I.laid (a:=s.heap.objs.size) (o:= .own (s.heap.objs.size+1)) (h':=s.heap.push PySem.W.emptyDict) (t':=s.toks) (fun b u q=>Heap.get?_push_of_some _ q) (Nat.le_refl _) ⟨_,e1⟩
 refine I1.laid (a:=s.heap.objs.size+1) (o:= .ins C s.heap.objs.size []) (t':=s.toks) (fun b u q=>Heap.get?_push_of_some _ q) (Nat.le_of_eq (Heap.size_push _ _)) ?_
 have ne:s.heap.objs.size≠s.heap.objs.size+1:=Nat.ne_of_lt (Nat.lt_succ_self _)
 refine⟨by rw[bc ne,aQ],Nat.zero_le _,ne,e2,fun _=>none,(Heap.Ns1.of_empty e3).at fun o q=>Heap.get?_push_of_some _ q,fun _=>True.intro,fun y hy=>absurd rfl hy⟩
theorem CZ{prog:Program}{w:World}{env:Env}{e:Expr}{f:Str}{pos:Pos}{s:Shared}{Q:Value→Shared→Prop}(hb:attributeBase e f env (eval e env)=eval e env)
 (h:wpAny (model prog w) A (eval e env) (fun o s₁=>wpAny (model prog w) A (getAttr o f true) Q E s₁) E s):wpAny (model prog w) A (eval (.Attribute e f pos) env) Q E s:=
 Attribute_any_ h (by rw[arm_eval_Attribute,hb])
end
noncomputable def Il(K:PySem.W.Frag)(ta:TE)(f:Str):TE:=fun σ H Q=>ta σ H fun x H1=>∃a C dx fs v,x= .ref a∧H1 a=some (.ins C dx fs)∧sW K C∧cT K C f∧fs.lookup f=some v∧Q v H1
noncomputable def Kr(K:PySem.W.Frag)(ta:TE)(f:Str):TE:=fun σ H Q=>ta σ H fun x H1=>∃a C dx fs v u,x= .ref a∧H1 a=some (.ins C dx fs)∧sW K C∧KU K C f v u∧fs.lookup f=none∧Q v H1
noncomputable def Jq(K:PySem.W.Frag)(ta tv:TE)(f:Str):TS:=fun D σ H=>tv σ H fun y H1=>ta σ H1 fun x H2=>∃a C dx fs,x= .ref a∧H2 a=some (.ins C dx fs)∧sW K C∧cT K C f∧fs.length < 1000∧
 D.nx σ (upd H2 a (.ins C dx (iX f y fs)))
noncomputable def KP(X:Cx)(op:Operator)(rd:V→V→Hp→VK→Prop):Prop:=
 ∀(pins:List (Addr × Obj)) (s:Shared) (σ:St) (H:Hp) (x y:V) (u v:Value) (Q:VK),Inv X pins σ H s→RelV x u→RelV y v→rd x y H Q→wpAny (model X.prog X.w) X.A (inplaceOp op u v) (EP X pins σ Q) X.xe s
noncomputable def HP(K:PySem.W.Frag)(ta tv:TE)(rd:V→V→Hp→VK→Prop)(f:Str):TS:=fun D σ H=>ta σ H fun x H1=>∃a C dx fs v,x= .ref a∧H1 a=some (.ins C dx fs)∧sW K C∧cT K C f∧fs.lookup f=some v∧
 tv σ H1 fun y H2=>rd v y H2 fun z H3=>∃dx' fs',H3 a=some (.ins C dx' fs')∧fs'.length < 1000∧D.nx σ (upd H3 a (.ins C dx' (iX f z fs')))
section
variable {X:Cx} {o e value:Expr} {f:Str} {pos pos' tpos:Pos} {ta tv:TE}
theorem FE(he:PE X e ta)(hb:attributeBase e f X.env (eval e X.env)=eval e X.env):PE X (.Attribute e f pos) (Il X.K ta f):=by
 intro pins s σ H Q I h
 refine CZ hb (dR (he pins s σ H _ I h) fun u s1 ⟨x,H1,I1,rx,a,C,dx,fs,v,ex,ea,c,n,l,q⟩=>?_)
 subst ex
 obtain rfl:u=Value.ref a:=rx
 exact wF I1 ea c n l fun u' s2 I2 ru=>⟨v,H1,I2,ru,q⟩
theorem D6(ha:PE X o ta)(hv:PE X value tv)(hs:swapsWith value (some (.Attribute o f pos')) pos.line X.env=pure false):PS X (.Assign [.Attribute o f pos'] value pos) (Jq X.K ta tv f):=by
 intro pins s σ H D I h
 refine plainObj_wpAny_Assign_Attribute (dR (hv pins s σ H _ I h) fun u s1 ⟨y,H1,I1,ry,q⟩=>dR (ha pins s1 σ H1 _ I1 q) fun ov s2 ⟨x,H2,I2,rx,a,C,dx,fs,ex,ea,c,n,l,q2⟩=>?_) hs
 subst ex
 obtain rfl:ov=Value.ref a:=rx
 exact vq I2 ea c n l ry fun s3 I3=>⟨σ,_,I3,q2⟩
noncomputable def Km:V→V→Hp→VK→Prop:=fun x y H Q=>∃i j,x= .int i∧y= .int j∧Q (.int (i+j)) H
noncomputable def Kb:V→V→Hp→VK→Prop:=fun x y H Q=>∃i j,x= .int i∧y= .int j∧Q (.int (i - j)) H
end
section
variable {X:Cx} {pins:List (Addr × Obj)} {σ:St} {H:Hp} {s:Shared} {A:Around} {E:Value→Shared→Prop} {Q:Value→Shared→Prop} {c:Value} {b:Bool}
inductive pP (K:PySem.W.Frag) (H:Hp):V→Value→Prop where
 | cK:pP K H .cK (.type "NoneType")
 | bl (x:Bool):pP K H (.bl x) (.type "bool")
 | int (i:Int):pP K H (.int i) (.type "int")
 | str (x:Str):pP K H (.str x) (.type "str")
 | flt (x:UInt64):pP K H (.flt x) (.type "float")
 | lst {a:Addr} {xs:List V} (e:H a=some (.lst xs)):pP K H (.ref a) (.type "list")
 | iE {a:Addr} {o:Obj} {xs:List V} (e:H a=some (.iE o (.lst xs))):pP K H (.ref a) (.type "list")
 | tup {a:Addr} {xs:List V} (e:H a=some (.tup xs)):pP K H (.ref a) (.type "tuple")
 | dK {a:Addr} {kvs:List (Key × V)} (e:H a=some (.dK kvs)):pP K H (.ref a) (.type "dict")
 | dT {a:Addr} {kvs:List (List Key × V)} (e:H a=some (.dT kvs)):pP K H (.ref a) (.type "dict")
 | ins {a C dx:Addr} {fs:List (Str × V)} (e:H a=some (.ins C dx fs)) (cl:sW K C) (ha:PySem.W.findIn K (.ref C) "__class__"=some (some (.builtin "object.__class__")))
    (hn:PySem.W.specialIn K (.builtin "object.__class__") "__get__"=some (some (.builtin "getset_descriptor.__get__"))) (htk:PySem.W.takesIn K (.builtin "object.__class__")=some true)
    (hm:PySem.W.mroIn K C (.type "object")=some true):pP K H (.ref a) (.ref C)
end
end L2
namespace L2
open PySem PySem.Spec PyProof.Rows
structure dZ (k:Nat) (A:Around):Prop where
 hd:A.handled=none
 dp:A.depth+3*k+5 < recursionLimit
 un:A.units+16*k+200 < cLine
theorem dZ.mono{j k:Nat}{A:Around}(r:dZ k A)(h:j≤k):dZ j A:=⟨r.hd,by have:=r.dp;omega,by have:=r.un;omega⟩
theorem dZ.deeper{k:Nat}{A:Around}(r:dZ (k+1) A)(env:Env):dZ k (A.deeper env):=
 ⟨r.hd,by have:=r.dp;show A.depth+1+3*k+5 < _;omega,by have:=r.un;show A.units+3+16*k+200 < _;omega⟩
theorem vg{A:Around}{C:Addr}{us:List Value}{kw:List (Str × Value)}:(A.under (.builtin "type.__call__" ⟨.ref C ::us,kw⟩)).depth=A.depth+1:=by
 first | rfl | simp [Around.under,Code.weight,Code.isCreation,Code.isGuard,Code.isCaller,Code.frames,Code.isFrame,guardIds]
theorem vv{A:Around}{C:Addr}{us:List Value}{kw:List (Str × Value)}:(A.under (.builtin "type.__call__" ⟨.ref C ::us,kw⟩)).units=A.units+1:=by
 first | rfl | simp [Around.under,Code.cUnits,Code.frames,Code.isFrame]
theorem dZ.make{k:Nat}{A:Around}(r:dZ (k+1) A)(C:Addr)(us:List Value)(kw:List (Str × Value)):dZ k (A.under (.builtin "type.__call__" ⟨.ref C ::us,kw⟩)):=
 ⟨r.hd,by have:=r.dp;rw [vg];omega,by have:=r.un;rw [vv];omega⟩
theorem dZ.depth{k:Nat}{A:Around}(r:dZ k A):A.depth < recursionLimit:=by have:=r.dp;omega
theorem dZ.units{k:Nat}{A:Around}(r:dZ k A):A.units+64 < cLine:=by have:=r.un;omega
noncomputable def Jj:TA:=fun _ H Q=>Q [] H
noncomputable def HJ(ta:TE)(tr:TA):TA:=fun σ H Q=>ta σ H fun x H1=>tr σ H1 fun xs H2=>Q (x ::xs) H2
section
variable {X:Cx} {e:Expr} {es:List Expr} {te:TE} {t:TA} {pos:Pos}
theorem gH:PA X [] Jj:=fun _ _ _ _ H Q I h=>Calls.spliced_nil ⟨[],H,I, .nil,h⟩
theorem eT(ha:PE X e te)(hr:PA X es t)(hs:starEach (e ::es) X.env=(false,eval e X.env) ::starEach es X.env:=by rfl):PA X (e ::es) (HJ te t):=by
 intro pos pins s σ H Q I h
 rw[hs]
 show wpAny _ _ (spliced ((false,eval e X.env) ::backTo pos (starEach es X.env))) _ _ s
 refine Calls.spliced_cons (dR (ha pins s σ H _ I h) fun u s1 ⟨x,H1,I1,r1,q1⟩=>?_)
 exact dR (hr pos pins s1 σ H1 _ I1 q1) fun us s2 ⟨xs,H2,I2,r2,q2⟩=>⟨x ::xs,H2,I2, .cons r1 r2,q2⟩
noncomputable def IF(t:TA):TE:=fun σ H Q=>t σ H fun xs H1=>xs.length≤sizeLine∧∀p,H1 p=none→Q (.ref p) (upd H1 p (.tup xs))
noncomputable def Ih(t:TA):TE:=fun σ H Q=>t σ H fun xs H1=>xs.length≤sizeLine∧∀p,H1 p=none→Q (.ref p) (upd H1 p (.lst xs))
theorem zC{x1}(h:PA X es t):PE X (.Tuple es x1 pos) (IF t):=by
 intro pins s σ H Q I hq
 refine wpAny_Tuple_spliced (dR (h pos pins s σ H _ I hq) fun us s1 ⟨xs,H1,I1,r,z,q⟩=>⟨by rw[←r.length];exact z,?_⟩)
 have hf:H1 s1.heap.objs.size=none:=I1.hok.fresh (Nat.le_refl _)
 refine⟨.ref s1.heap.objs.size,upd H1 s1.heap.objs.size (.tup xs),I1.laid (t':=s1.toks) (fun b u e=>Heap.get?_push_of_some _ e) (Nat.le_refl _) ?_,rfl,q _ hf⟩
 exact⟨z,us,r,⟨_,Heap.get?_push_size _ rfl,rfl,_,rfl⟩⟩
theorem A8(h:PA X es t):PE X (.List es pos) (Ih t):=by
 intro pins s σ H Q I hq
 refine wpAny_List_spliced (dR (h pos pins s σ H _ I hq) fun us s1 ⟨xs,H1,I1,r,z,q⟩=>⟨by rw[←r.length];exact z,?_⟩)
 have hf:H1 s1.heap.objs.size=none:=I1.hok.fresh (Nat.le_refl _)
 refine⟨.ref s1.heap.objs.size,upd H1 s1.heap.objs.size (.lst xs),I1.laid (t':=s1.toks) (fun b u e=>Heap.get?_push_of_some _ e) (Nat.le_refl _) ?_,rfl,q _ hf⟩
 exact⟨z,us,0,r,Heap.get?_push_size _ rfl⟩
end
noncomputable abbrev Sp:=List V→Hp→VK→XK→Prop
noncomputable abbrev zE:=List Env→Hp→Shared→XK→Value→Shared→Prop
structure wo (P:Program) (w:World) (K:PySem.W.Frag) (mg:Str→Option Value) (base:Heap) (A:Around) (outer:List Env) (s:Shared) (H:Hp):Prop where
 frames:A.frames=some outer
 mod:Mod K mg base
 bs:∀b o,base.get? b=some o→s.heap.get? b=some o∧H b=none
 bsz:base.objs.size≤s.heap.objs.size
 oa:s.heap.FunFrames base outer
 frf:∀b∈zm outer,H b=none
 hok:k3 P w H s.heap
 bare:AllBare s.gens
noncomputable def CE(outer:List Env)(P:Program)(w:World)(H:Hp)(s:Shared)(Q:VK)(u:Value)(s':Shared):Prop:=
 ∃v H',s'.os=s.os∧AllBare s'.gens∧Un (zm outer) [] H H' s.heap s'.heap∧k3 P w H' s'.heap∧RelV v u∧Q v H'
noncomputable def CR(CX:zE)(outer:List Env)(P:Program)(w:World)(H:Hp)(s:Shared)(Q:VK)(E:XK)(r:Result)(s':Shared):Prop:=
 match r with
 | .ok (.ret u)=>CE outer P w H s Q u s'
 | .ok _=>False
 | .error e=>CX outer H s E e s'
structure gM (P:Program) (w:World) (K:PySem.W.Frag) (mg:Str→Option Value) (base:Heap) (CX:zE) (k:Nat) (f:Addr) (fd:FuncData) (ps:List Str) (sp:Sp):Prop where
 len:∀vs H Q E,sp vs H Q E→vs.length=ps.length
 run:∀(A:Around) (outer:List Env) (s:Shared) (H:Hp) (args:Args) (us:List Value) (vs:List V) (Q:VK) (E:XK),dZ k A→wo P w K mg base A outer s H→BindsTo s fd args (ps.zip us)→Vals vs us→sp vs H Q E→
  codeAny (model P w) A (.call (.ref f) args) (CR CX outer P w H s Q E) s
theorem gM.imp{P:Program}{w:World}{K:PySem.W.Frag}{mg:Str→Option Value}{base:Heap}{CX:zE}{k:Nat}{f:Addr}{fd:FuncData}{ps:List Str}{sp sp':Sp}(F:gM P w K mg base CX k f fd ps sp)
 (h:∀vs H Q E,sp' vs H Q E→sp vs H Q E):gM P w K mg base CX k f fd ps sp':=
 ⟨fun vs H Q E q=>F.len vs H Q E (h _ _ _ _ q),fun A outer s H args us vs Q E hr he hb hv hs=>F.run A outer s H args us vs Q E hr he hb hv (h _ _ _ _ hs)⟩
theorem wo.make{P:Program}{w:World}{K:PySem.W.Frag}{mg:Str→Option Value}{base:Heap}{A:Around}{outer:List Env}{s:Shared}{H:Hp}(e:wo P w K mg base A outer s H)(C:Addr)(us:List Value)(kw:List (Str × Value)) :
 wo P w K mg base (A.under (.builtin "type.__call__" ⟨.ref C ::us,kw⟩)) outer s H:=⟨by first | exact e.frames | (simpa [Around.under,Code.envs,Code.isFrame,pushEnvs] using e.frames),e.mod,e.bs,e.bsz,e.oa,e.frf,e.hok,e.bare⟩
section
variable {X:Cx} {pins:List (Addr × Obj)} {σ:St} {H:Hp} {s s':Shared}
theorem Inv.Hk(I:Inv X pins σ H s):wo X.prog X.w X.K X.mg X.base X.A X.stack s H:=
 ⟨I.ok.frames,I.ok.mod,I.bs,Nat.le_trans I.ok.bsz I.sz,I.stack,I.x5,I.hok,I.bare⟩
theorem Inv.after{Q:VK}{u:Value}(I:Inv X pins σ H s)(h:CE X.stack X.prog X.w H s Q u s'):EP X pins σ Q u s':=by
 obtain⟨v,H',os,bare,un,hok,r,q⟩:=h
 obtain⟨hh,g,d,t,os'⟩:=s'
 obtain rfl:os'=s.os:=os
 exact⟨v,H',I.call (h':=hh) (g':=g) (d':=d) (t':=t) (ch:=[]) un hok bare (fun b z=>absurd z (by simp)),r,q⟩
end
noncomputable def Ho(sp:Sp)(dvs:List V)(E:XK)(t:TA):TE:=fun σ H Q=>t σ H fun vs H1=>sp (vs++dvs) H1 Q E
noncomputable def GO(C:Addr)(m:Str)(sp:Sp)(dvs:List V)(E:XK)(ta:TE)(t:TA):TE:=fun σ H Q=>ta σ H fun x H1=>∃a dx fs,x= .ref a∧H1 a=some (.ins C dx fs)∧fs.lookup m=none∧
 t σ H1 fun vs H2=>sp (x ::(vs++dvs)) H2 Q E
noncomputable def Gw(C:Addr)(sp:Sp)(dvs:List V)(E:XK)(t:TA):TE:=fun σ H Q=>t σ H fun vs H1=>∀x dx,H1 x=none→H1 dx=none→dx≠x→
 sp (.ref x ::(vs++dvs)) (upd (upd H1 dx (.own x)) x (.ins C dx [])) (fun v H2=>v= .cK∧Q (.ref x) H2) E
noncomputable def Binds(K:PySem.W.Frag)(fd:FuncData)(ps:List Str)(ds:List Value):Prop:=
 ∀(s:Shared) (us:List Value),K.In s.heap→(us++ds).length=ps.length→BindsTo s fd ⟨us,[]⟩ (ps.zip (us++ds))
theorem Binds.all{K:PySem.W.Frag}{fd:FuncData}{ps:List Str}(h:∀us:List Value,us.length=ps.length→bindArgs fd ⟨us,[]⟩=pure (ps.zip us)):Binds K fd ps []:=fun s us _ hl=>by
 rw[List.append_nil] at hl ⊢
 exact .of_eq (h us hl)
noncomputable def Passes(CX:zE)(X:Cx)(E:XK):Prop:=∀(pins:List (Addr × Obj)) (σ:St) (H:Hp) (s:Shared) (e:Value) (s':Shared),Inv X pins σ H s→CX X.stack H s E e s'→X.xe e s'
section
variable {X:Cx} {CX:zE} {k:Nat} {f C:Addr} {fd:FuncData} {ps:List Str} {sp:Sp} {dvs:List V} {ds:List Value} {E:XK} {x m:Str} {p pos apos:Pos} {e o:Expr} {es:List Expr} {ta:TE} {t:TA}
theorem zM{pins:List (Addr × Obj)}{σ:St}{H:Hp}{s:Shared}{Q:VK}{us:List Value}{vs:List V}(F:gM X.prog X.w X.K X.mg X.base CX k f fd ps sp)(hr:dZ k X.A)(hb:Binds X.K fd ps ds)(hd:Vals dvs ds)(hx:Passes CX X E)
 (I:Inv X pins σ H s) (r:Vals vs us) (h:sp (vs++dvs) H Q E):wpAny (model X.prog X.w) X.A (call (.ref f) us) (EP X pins σ Q) X.xe s:=by
 have r2:Vals (vs++dvs) (us++ds):=r.append hd
 have hl:(us++ds).length=ps.length:=by rw[←r2.length];exact F.len _ _ _ _ h
 refine wpAny_call (codeAny_mono (F.run X.A X.stack s H ⟨us,[]⟩ (us++ds) (vs++dvs) Q E hr I.Hk (hb s us I.xt hl) r2 h) fun r s' hq=>?_)
 cases r with
 | error e=>exact hx pins σ H s e s' I hq
 | ok fl=>
   cases fl with
   | ret u=>exact I.after hq
   | next=>exact False.elim hq
   | brk=>exact False.elim hq
   | cont=>exact False.elim hq
theorem sI(F:gM X.prog X.w X.K X.mg X.base CX k f fd ps sp)(hr:dZ k X.A)(hg:Gl X x)(hm:X.mg x=some (.ref f))(hk:PySem.W.keepIn X.K (.ref f)=true)(hb:Binds X.K fd ps ds)(hd:Vals dvs ds)(hx:Passes CX X E)
 (ha:PA X (e ::es) t) (hdb:(x==("__debug__":Str))=false:=by decide) (he:starEach (e ::es) X.env=(false,eval e X.env) ::starEach es X.env:=by rfl) (hpl:(backTo pos (starEach es X.env)).any (·.1)=false:=by rfl) :
 PE X (.Call (.Name x p) (e ::es) [] pos) (Ho sp dvs E t):=by
 intro pins s σ H Q I h
 refine wpAny_Call_Name_kw (xZ I hg hm ?_ hdb)
 refine PySem.W.callWith_K (h₀:=X.base) I.ok.mod.kin hk (dR (ha pos pins s σ H _ I h) fun us s1 ⟨vs,H1,I1,r,q⟩=>⟨I1.xt,?_⟩) he hpl
 exact zM F hr hb hd hx I1 r q
theorem B4{pl:Sem Bool}(he:PE X o ta)(c:sW X.K C)(hm:Meth X.K C m f)(F:gM X.prog X.w X.K X.mg X.base CX k f fd ps sp)(hr:dZ k X.A)(hb:Binds X.K fd ps ds)(hd:Vals dvs ds)(hx:Passes CX X E)(ha:PA X (e ::es) t)
 (hst:starEach (e ::es) X.env=(false,eval e X.env) ::starEach es X.env:=by rfl) (hpl:(backTo pos (starEach es X.env)).any (·.1)=false:=by rfl)
 (ht:eval (.Call (.Attribute o m apos) (e ::es) [] pos) X.env=(do
   let ov ←eval o X.env
   standAt apos.atName
   let(f,first) ←holding [ov] (getMethod ov m pl)
   callWith pos f first (backTo pos (starEach (e ::es) X.env)) (backToKw pos (keywordEach [] X.env))):=by rfl) :
 PE X (.Call (.Attribute o m apos) (e ::es) [] pos) (GO C m sp dvs E ta t):=by
 intro pins s σ H Q I h
 refine PySem.W.methodCall_KW (pl:=pl) (dR (he pins s σ H _ I h) fun u s1 ⟨x,H1,I1,rx,a,dx,fs,ex,ea,l,q⟩=>?_) ht
 subst ex
 obtain rfl:u=Value.ref a:=rx
 refine vT I1 ea c hm l ?_
 refine PySem.W.callWith_K (first:=[.ref a]) (h₀:=X.base) I.ok.mod.kin hm.kp (dR (ha pos pins s1 σ H1 _ I1 q) fun us s2 ⟨vs,H2,I2,r,q2⟩=>⟨I2.xt,?_⟩) hst hpl
 exact zM (us:= .ref a ::us) (vs:= .ref a ::vs) F hr hb hd hx I2 (.cons rfl r) q2
structure Mk (K:PySem.W.Frag) (C f:Addr):Prop where
 makes:PySem.W.makesIn K C=true
 init:PySem.W.findIn K (.ref C) "__init__"=some (some (.ref f))
 fn:PySem.W.isFn K (.ref f)=true
 kp:PySem.W.keepIn K (.ref C)=true
theorem Bw{pins:List (Addr × Obj)}{σ:St}{H:Hp}{s:Shared}{Q:VK}{us:List Value}{vs:List V}(M:Mk X.K C f)(F:gM X.prog X.w X.K X.mg X.base CX k f fd ps sp)(hr:dZ (k+1) X.A)(hb:Binds X.K fd ps ds)(hd:Vals dvs ds)
 (hx:Passes CX X E) (I:Inv X pins σ H s) (r:Vals vs us)
 (h:∀x dx,H x=none→H dx=none→dx≠x→sp (.ref x ::(vs++dvs)) (upd (upd H dx (.own x)) x (.ins C dx [])) (fun v H2=>v= .cK∧Q (.ref x) H2) E) :
 wpAny (model X.prog X.w) X.A (call (.ref C) us) (EP X pins σ Q) X.xe s:=by
 have hq:=h (s.heap.objs.size+1) s.heap.objs.size (I.hok.fresh (Nat.le_succ _)) (I.hok.fresh (Nat.le_refl _)) (Nat.ne_of_lt (Nat.lt_succ_self _))
 have I2:=Inv.made (C:=C) I
 have r2:Vals (V.ref (s.heap.objs.size+1) ::(vs++dvs)) (Value.ref (s.heap.objs.size+1) ::(us++ds)):= .cons rfl (r.append hd)
 have hl:(Value.ref (s.heap.objs.size+1) ::us++ds).length=ps.length:=by
  have e:=r2.length
  rw[F.len _ _ _ _ hq] at e
  exact e.symm
 refine wpAny_call (Ba (f:=f) I.xt M.makes M.init (beq_iff_eq.mp M.fn) (codeAny_mono (F.run _ X.stack _ _ ⟨Value.ref (s.heap.objs.size+1) ::us,[]⟩ (Value.ref (s.heap.objs.size+1) ::(us++ds)) _ _ E (hr.make C us [])
  (I2.Hk.make C us []) (hb _ (Value.ref (s.heap.objs.size+1) ::us) I2.xt hl) r2 hq) fun r s' hq'=>?_))
 cases r with
 | error e=>exact hx pins σ _ _ e s' I2 hq'
 | ok fl=>
   cases fl with
   | ret u=>
     obtain⟨v,H',I3,rv,ev,q3⟩:=I2.after hq'
     subst ev
     exact⟨rv,⟨V.ref (s.heap.objs.size+1),H',I3,rfl,q3⟩⟩
   | next=>exact False.elim hq'
   | brk=>exact False.elim hq'
   | cont=>exact False.elim hq'
theorem Cq(M:Mk X.K C f)(F:gM X.prog X.w X.K X.mg X.base CX k f fd ps sp)(hr:dZ (k+1) X.A)(hg:Gl X x)(hm:X.mg x=some (.ref C))(hb:Binds X.K fd ps ds)(hd:Vals dvs ds)(hx:Passes CX X E)
 (ha:PA X (e ::es) t) (hdb:(x==("__debug__":Str))=false:=by decide) (he:starEach (e ::es) X.env=(false,eval e X.env) ::starEach es X.env:=by rfl) (hpl:(backTo pos (starEach es X.env)).any (·.1)=false:=by rfl) :
 PE X (.Call (.Name x p) (e ::es) [] pos) (Gw C sp dvs E t):=by
 intro pins s σ H Q I h
 refine wpAny_Call_Name_kw (xZ I hg hm ?_ hdb)
 refine PySem.W.callWith_K (h₀:=X.base) I.ok.mod.kin M.kp (dR (ha pos pins s σ H _ I h) fun us s1 ⟨vs,H1,I1,r,q⟩=>⟨I1.xt,?_⟩) he hpl
 exact Bw M F hr hb hd hx I1 r q
end
noncomputable def PK(X:Cx)(kws:List Keyword)(t:TA):Prop:=
 ∀(pos:Pos) (pins:List (Addr × Obj)) (s:Shared) (σ:St) (H:Hp) (Q:List V→Hp→Prop),Inv X pins σ H s→t σ H Q→wpAny (model X.prog X.w) X.A (evalAll ((backToKw pos (keywordEach kws X.env)).map (·.2))) (AP X pins σ Q) X.xe s
section
variable {X:Cx} {CX:zE} {k:Nat} {f C:Addr} {fd:FuncData} {ps ks:List Str} {sp:Sp} {E:XK} {x m:Str} {p pos apos kpos:Pos} {e o:Expr} {es:List Expr} {kws:List Keyword} {te ta:TE} {t tk:TA} {nm:Option Str}
structure Js (K:PySem.W.Frag) (fd:FuncData) (ps ks:List Str) (g:List Value→List Value→List Value) (gV:List V→List V→List V):Prop where
 to:∀(s:Shared) (us ws:List Value),K.In s.heap→(g us ws).length=ps.length→BindsTo s fd ⟨us,ks.zip ws⟩ (ps.zip (g us ws))
 rel:∀{vs:List V} {us:List Value} {zs:List V} {ws:List Value},Vals vs us→Vals zs ws→Vals (gV vs zs) (g us ws)
noncomputable def Jl(sp:Sp)(gV:List V→List V→List V)(E:XK)(t tk:TA):TE:=fun σ H Q=>t σ H fun vs H1=>tk σ H1 fun zs H2=>sp (gV vs zs) H2 Q E
variable {g:List Value→List Value→List Value} {gV:List V→List V→List V}
end
structure ba (N P:List Str) (sc:Scope):Prop where
 kind:sc.kind= .function
 co:sc.isCoroutine=false
 gen:sc.isGenerator=false
 nd:N.Nodup
 pre:N.take P.length=P
 par:∀x∈P,sc.names.lookup x=some .local∨sc.names.lookup x=some .cell
 nofree:∀y∈sc.names,y.2≠ .free
theorem qG{kindOf:Str→Option NameKind}{x:Str}:∀{binds:List (Str × Value)} {m:Str→Option Value},(∀v,(x,v) ∉ binds)→bindL kindOf binds m x=m x
 | [],_,_=>rfl
 | (n,v) ::r,m,h=>by
   unfold bindL
   rw[qG fun w hw=>h w (List.mem_cons_of_mem _ hw)]
   split
   ·have:x≠n:=by rintro rfl;exact h v List.mem_cons_self
    simp [this]
   ·rfl
theorem q8{kindOf:Str→Option NameKind}{x:Str}:∀{binds:List (Str × Value)} {m:Str→Option Value},(∀v,(x,v) ∉ binds)→bindC kindOf binds m x=m x
 | [],_,_=>rfl
 | (n,v) ::r,m,h=>by
   unfold bindC
   rw[q8 fun w hw=>h w (List.mem_cons_of_mem _ hw)]
   split
   ·rfl
   ·have:x≠n:=by rintro rfl;exact h v List.mem_cons_self
    simp [this]
theorem rj{kindOf:Str→Option NameKind}{x:Str}{v:Value}:∀{P:List Str} {vs:List Value} {i:Nat} {m:Str→Option Value},P.Nodup→P[i]? =some x→vs[i]? =some v→kindOf x=some .local→
 bindL kindOf (P.zip vs) m x=some v
 | [],_,_,_,_,h,_,_=>by simp at h
 | _ ::_,[],_,_,_,_,h,_=>by simp at h
 | p ::P,w ::vs,0,m,nd,h1,h2,hk=>by
   simp at h1 h2;subst h1;subst h2
   show bindL kindOf ((p,w) ::P.zip vs) m p=_
   unfold bindL
   rw[qG fun v hv=>(List.nodup_cons.mp nd).1 (List.of_mem_zip hv).1,if_pos hk]
   simp
 | p ::P,w ::vs,i+1,m,nd,h1,h2,hk=>by
   show bindL kindOf ((p,w) ::P.zip vs) m x=_
   unfold bindL
   exact rj (i:=i) (List.nodup_cons.mp nd).2 (by simpa using h1) (by simpa using h2) hk
theorem qD{kindOf:Str→Option NameKind}{x:Str}{v:Value}:∀{P:List Str} {vs:List Value} {i:Nat} {m:Str→Option Value},P.Nodup→P[i]? =some x→vs[i]? =some v→kindOf x≠some .local→
 bindC kindOf (P.zip vs) m x=some v
 | [],_,_,_,_,h,_,_=>by simp at h
 | _ ::_,[],_,_,_,_,h,_=>by simp at h
 | p ::P,w ::vs,0,m,nd,h1,h2,hk=>by
   simp at h1 h2;subst h1;subst h2
   show bindC kindOf ((p,w) ::P.zip vs) m p=_
   unfold bindC
   rw[q8 fun v hv=>(List.nodup_cons.mp nd).1 (List.of_mem_zip hv).1,if_neg hk]
   simp
 | p ::P,w ::vs,i+1,m,nd,h1,h2,hk=>by
   show bindC kindOf ((p,w) ::P.zip vs) m x=_
   unfold bindC
   exact qD (i:=i) (List.nodup_cons.mp nd).2 (by simpa using h1) (by simpa using h2) hk
noncomputable def start(N:List Str)(vs:List V):St:=vs.map some++List.replicate (N.length - vs.length) none
noncomputable def qc(CX:zE)(P:Program)(w:World)(K:PySem.W.Frag)(mg:Str→Option Value)(base:Heap)(N:List Str)(qual:Str)(scope:Scope)(f:Addr)(cd:Value)(A:Around)(outer:List Env)(s:Shared)(H:Hp)(E:XK):Cx where
 prog:=P
 w:=w
 K:=K
 mg:=mg
 base:=base
 A:=A.deeper (envOfC qual scope s.heap.objs.size f cd)
 N:=N
 s₀:=s
 H₀:=H
 env:=envOfC qual scope s.heap.objs.size f cd
 outer:=outer
 stack:=envOfC qual scope s.heap.objs.size f cd ::outer
 ex:=[]
 calm:=true
 fn:=fun _=>true
 pn:=[]
 xe:=fun e s'=>wpAny (model P w) (A.deeper (envOfC qual scope s.heap.objs.size f cd)) (leaving (envOfC qual scope s.heap.objs.size f cd) e) (fun _ s''=>CX outer H s E e s'') (fun e' s''=>CX outer H s E e' s'') s'
theorem uW{sc:Scope}{n:Nat}{x:Str}(h:sc.names.lookup x=some .cell):∃c,(cellsFrom n sc.names []).lookup x=some c:=by
 have q:=PySem.W.cellsFrom_some sc.names n [] (.inl h)
 exact Option.isSome_iff_exists.mp q
theorem yr{CX:zE}{P:Program}{w:World}{K:PySem.W.Frag}{mg:Str→Option Value}{base:Heap}{N ps:List Str}{qual:Str}{scope:Scope}{f:Addr}{cd:Value}{A:Around}{outer:List Env}{s s1:Shared}{H:Hp}{E:XK}{us:List Value}{vs:List V}
 (S:ba N ps scope) (hd:A.handled=none) (e0:wo P w K mg base A outer s H) (hl:vs.length=ps.length) (r:Vals vs us)
 (x:InCallC s s.heap.objs.size (bindL (envOfC qual scope s.heap.objs.size f cd).kindOf (ps.zip us) fun _=>none) (cellsFrom (s.heap.objs.size+1) scope.names []) (bindC (envOfC qual scope s.heap.objs.size f cd).kindOf (ps.zip us) fun _=>none) s1) :
 Inv (qc CX P w K mg base N qual scope f cd A outer s H E) [] (start N vs) H s1:=by
 have hpl:ps.length≤N.length:=by have:=congrArg List.length S.pre;rw [List.length_take] at this;omega
 obtain⟨h1,tk,rfl,hk⟩:=x.done
 have noA:∀b:Addr,b ∉ (qc CX P w K mg base N qual scope f cd A outer s H E).ex:=fun b z=>absurd (show b∈([]:List Addr) from z) (by simp)
 refine⟨⟨e0.mod,S.kind,rfl,rfl,Nat.le_refl _,fun y z c h1 h2=>?_,fun y hy=>?_,fun y c _ h=>?_,fun _=>hd,Around.frames_deeper e0.frames, .inr ⟨rfl,rfl⟩,fun b z=>absurd z (noA b),e0.bs,e0.bsz,fun b _ _=>noA b,fun b z=>absurd z (noA b),e0.oa,e0.frf⟩,
  rfl,e0.bare,Un.kept hk,⟨_,x.toInCall.ns,fun i y v h1 h2 h3=>?_⟩,fun y c h=>⟨_,x.cell y c h⟩,e0.hok.fresh (Nat.le_refl _),fun y c h=>?_,fun p hp=>absurd (show p∈([]:List (Addr × Obj)) from hp) (by simp),e0.hok.kept hk,?_⟩
 ·exact name_of_addr x.apart (PySem.mem_of_lookup h1) (PySem.mem_of_lookup h2)
 ·have hy:scope.names.lookup y=some .cell∨scope.names.lookup y=some .free:=hy
  rcases hy with hy | hy
  ·exact uW hy
  ·exact absurd rfl (S.nofree _ (PySem.mem_of_lookup hy))
 ·exact Nat.le_of_lt (x.above y c (PySem.mem_of_lookup h))
 ·have hi:i < vs.length:=by
   unfold start at h2
   by_cases hi:i < vs.length
   ·exact hi
   ·rw[List.getElem?_append_right (by simpa using hi)] at h2
    rw[List.getElem?_replicate] at h2
    split at h2 <;> cases h2
  have ha:vs[i]? =some v:=by
   unfold start at h2
   rw[List.getElem?_append_left (by simpa using hi),List.getElem?_map] at h2
   cases e:vs[i]? with
   | none=>rw [e] at h2;cases h2
   | some a=>rw [e] at h2;cases h2;rfl
  obtain⟨u,hu,rv⟩:=r.get ha
  have hp:ps[i]? =some y:=by
   rw[←S.pre,List.getElem?_take_of_lt (by omega)];exact h1
  have ndP:ps.Nodup:=by rw[←S.pre];exact S.nd.sublist (List.take_sublist _ _)
  refine⟨u,rv,?_⟩
  rcases S.par y (List.mem_of_getElem? hp) with k | k
  ·exact .inl ⟨k,rj ndP hp hu k⟩
  ·obtain⟨c,e⟩:=uW (n:=s.heap.objs.size+1) k
   refine .inr ⟨.inl k,c,e,?_⟩
   have q:=x.cell y c e
   rw[qD ndP hp hu (by show scope.names.lookup y≠_;rw [k];decide)] at q
   exact q
 ·exact e0.hok.fresh (Nat.le_of_lt (x.above y c (PySem.mem_of_lookup h)))
 ·unfold start
  show _=N.length
  rw[List.length_append,List.length_map,List.length_replicate]
  omega
theorem Hi{CX:zE}{P:Program}{w:World}{K:PySem.W.Frag}{mg:Str→Option Value}{base:Heap}{k:Nat}{f:Addr}{name qual:Str}{params:Arguments}{body:List Stmt}{scope:Scope}{dV kV doc pm cdv ct oc:Value}{an od:Option Addr}
 {osl:Array (Option Value)} {N ps:List Str} {sp:Sp} (lk:K.lookup f=some ⟨oc,od, .func (PySem.W.fnOf name qual params body scope dV kV doc pm an cdv ct),osl⟩) (hcd:PySem.W.codeIn K cdv qual=true) (S:ba N ps scope)
 (len:∀vs H Q E,sp vs H Q E→vs.length=ps.length)
 (hbody:∀(A:Around) (outer:List Env) (s:Shared) (H:Hp) (vs:List V) (Q:VK) (E:XK),dZ k (A.deeper (envOfC qual scope s.heap.objs.size f cdv))→sp vs H Q E→
   ∃t,sT (qc CX P w K mg base N qual scope f cdv A outer s H E) body t∧t {nx:=fun _ H'=>Q .cK H',rt:=Q} (start N vs) H) :
 gM P w K mg base CX (k+1) f (PySem.W.fnOf name qual params body scope dV kV doc pm an cdv ct) ps sp:=by
 refine⟨len,fun A outer s H args us vs Q E hr e0 hb r hsp=>?_⟩
 have hl:=len _ _ _ _ hsp
 have KX:K.In s.heap:=e0.mod.kin.keeps fun b o e=>(e0.bs b o e).1
 have lim:s.heap.NoLimit:=e0.mod.nolimit.keeps fun b o e=>(e0.bs b o e).1
 have hkind:∀y∈ps.zip us,scope.names.lookup y.1=some .local∨(scope.names.lookup y.1=some .cell∧((cellsFrom (s.heap.objs.size+1) scope.names []).lookup y.1).isSome=true):=fun⟨n,v⟩ hy=>by
  rcases S.par n (List.of_mem_zip hy).1 with q | q
  ·exact .inl q
  ·exact .inr ⟨q,PySem.W.cellsFrom_some _ _ _ (.inl q)⟩
 refine codeAny_call_function hr.depth (KX _ _ lk) rfl S.co S.gen rfl (PySem.W.codeRec_of KX hcd) (hb _ _ _ _ ?_)
 refine wpAny_newFunctionEnv_cells S.kind hkind fun env he s1 x=>?_
 subst he
 refine⟨lim.keeps x.toInCall.keep,codeAny_func ?_⟩
 obtain⟨t,ht,hq⟩:=hbody A outer s H vs Q E (hr.deeper _) hsp
 have I:Inv (qc CX P w K mg base N qual scope f cdv A outer s H E) [] (start N vs) H s1:=yr S hr.hd e0 hl r x
 refine wpAny_mono (ht [] s1 (start N vs) H _ I hq) (fun fl s' hs=>?_) fun e s' hs=>hs
 have fin:∀{σ':St} {H':Hp} {v:V} {u:Value},Inv (qc CX P w K mg base N qual scope f cdv A outer s H E) [] σ' H' s'→RelV v u→Q v H'→CE outer P w H s Q u s':=
  fun {σ' H' v u} J rv q=>⟨v,H',J.os,J.bare,J.base,J.hok,rv,q⟩
 cases fl with
 | ret u=>
   obtain⟨v,σ',H',J,rv,q⟩:=hs
   exact fin J rv q
 | next=>
   obtain⟨σ',H',J,q⟩:=hs
   exact fin (v:=V.cK) (u:=Value.none) J rfl q
 | brk=>
   obtain⟨_,_,_,q⟩:=hs
   exact False.elim q
 | cont=>
   obtain⟨_,_,_,q⟩:=hs
   exact False.elim q
end L2
namespace L2
open PySem PySem.Spec PyProof.Rows
section
variable {X:Cx} {x:Str} {p pos:Pos} {e:Expr} {es:List Expr} {t:TA} {id T:String} {r:List V→Hp→VK→Prop}
noncomputable def J1(r:List V→Hp→VK→Prop)(t:TA):TE:=fun σ H Q=>t σ H fun vs H1=>r vs H1 Q
theorem uv(hc:nQ X (.builtin id) r)(hg:Gl X x)(hm:X.mg x=none)(hv:bootBuiltins x=some (.builtin id))(ha:PA X (e ::es) t)(hn:x≠"__name__":=by decide)(hdb:(x==("__debug__":Str))=false:=by decide)
 (he:starEach (e ::es) X.env=(false,eval e X.env) ::starEach es X.env:=by rfl) (hpl:(backTo pos (starEach es X.env)).any (·.1)=false:=by rfl):PE X (.Call (.Name x p) (e ::es) [] pos) (J1 r t):=by
 intro pins s σ H Q I h
 refine wpAny_Call_Name_kw (lI I hg hm hv ?_ hn hdb)
 exact PyProof.Rows.callWith_builtin1 (dR (ha pos pins s σ H _ I h) fun us s1 ⟨vs,H1,I1,r1,q1⟩=>hc pins s1 σ H1 vs us Q I1 r1 q1) he hpl
theorem mQ(hc:nQ X (.type T) r)(hg:Gl X x)(hm:X.mg x=none)(hv:bootBuiltins x=some (.type T))(ha:PA X (e ::es) t)(hn:x≠"__name__":=by decide)(hdb:(x==("__debug__":Str))=false:=by decide)
 (he:starEach (e ::es) X.env=(false,eval e X.env) ::starEach es X.env:=by rfl) (hpl:(backTo pos (starEach es X.env)).any (·.1)=false:=by rfl):PE X (.Call (.Name x p) (e ::es) [] pos) (J1 r t):=by
 intro pins s σ H Q I h
 refine wpAny_Call_Name_kw (lI I hg hm hv ?_ hn hdb)
 exact PyProof.Rows.callWith_type1 (dR (ha pos pins s σ H _ I h) fun us s1 ⟨vs,H1,I1,r1,q1⟩=>hc pins s1 σ H1 vs us Q I1 r1 q1) he hpl
end
end L2
namespace L2
open PySem PySem.Spec PyProof.Rows
section
variable {κ:Type} [DecidableEq κ]
noncomputable def kC(kvs:List (κ × V))(k:κ):Option V:=(kvs.find? fun kv=>decide (kv.1=k)).map (·.2)
noncomputable def putK(kvs:List (κ × V))(k:κ)(v:V):List (κ × V):=
 if(kvs.any fun kv=>decide (kv.1=k))=true then kvs.map (fun kv=>if kv.1=k then(kv.1,v) else kv) else kvs++[(k,v)]
noncomputable def zq(kvs:List (κ × V))(k:κ):List (κ × V):=kvs.filter fun kv=>decide (kv.1≠k)
theorem uF{p:κ × V}{r:List (κ × V)}{k:κ}(e:p.1=k):kC (p ::r) k=some p.2:=by simp [kC,List.find?_cons,e]
theorem uY{p:κ × V}{r:List (κ × V)}{k:κ}(e:¬p.1=k):kC (p ::r) k=kC r k:=by simp [kC,List.find?_cons,e]
theorem tZ(kvs:List (κ × V))(k:κ)(v:V):(putK kvs k v).length≤kvs.length+1:=by
 unfold putK
 split
 ·rw[List.length_map];omega
 ·rw[List.length_append,List.length_cons,List.length_nil];omega
theorem mv.getD{o:Option V}{u:Option Value}{d:V}{d':Value}(r:mv o u)(rd:RelV d d'):RelV (o.getD d) (u.getD d'):=by
 cases o with
 | none=>cases u with
   | none=>exact rd
   | some _=>exact(show False from r).elim
 | some _=>cases u with
   | none=>exact(show False from r).elim
   | some _=>exact r
theorem KV.val{kvs:List (κ × V)}{vs:List (κ × Value)}(r:KV kvs vs)(k:κ):mv (kC kvs k) (valueAt vs k):=by
 unfold KV at r
 induction r with
 | nil=>exact True.intro
 | @cons p q ps qs h t ih=>
   obtain⟨h1,h2⟩:=h
   by_cases e:p.1=k
   ·have e':q.1=k:=h1.symm.trans e
    have b:valueAt (q ::qs) k=some q.2:=by simp [valueAt,List.find?_cons,e']
    rw[uF e,b];exact h2
   ·have e':¬q.1=k:=fun z=>e (h1.trans z)
    have b:valueAt (q ::qs) k=valueAt qs k:=by simp [valueAt,List.find?_cons,e']
    rw[uY e,b];exact ih
theorem KV.any{kvs:List (κ × V)}{vs:List (κ × Value)}(r:KV kvs vs)(k:κ):(kvs.any fun kv=>decide (kv.1=k))=vs.any fun kv=>decide (kv.1=k):=by
 unfold KV at r
 induction r with
 | nil=>rfl
 | cons h t ih=>rw [List.any_cons,List.any_cons,ih,h.1]
theorem KV.IT{kvs:List (κ × V)}{vs:List (κ × Value)}(r:KV kvs vs)(k:κ){y:V}{u:Value}(ry:RelV y u) :
 KV (kvs.map fun kv=>if kv.1=k then(kv.1,y) else kv) (vs.map fun kv=>if kv.1=k then(kv.1,u) else kv):=by
 unfold KV at r ⊢
 induction r with
 | nil=>exact .nil
 | @cons p q ps qs h t ih=>
   rw[List.map_cons,List.map_cons]
   refine .cons ?_ ih
   obtain⟨h1,h2⟩:=h
   by_cases e:p.1=k
   ·rw[if_pos e,if_pos (h1.symm.trans e)];exact⟨h1,ry⟩
   ·rw[if_neg e,if_neg (fun z=>e (h1.trans z))];exact⟨h1,h2⟩
theorem KV.put{kvs:List (κ × V)}{vs:List (κ × Value)}(r:KV kvs vs)(k:κ){y:V}{u:Value}(ry:RelV y u):KV (putK kvs k y) (stored vs k u):=by
 unfold putK stored
 rw[r.any k]
 by_cases e:(vs.any fun kv=>decide (kv.1=k))=true
 ·rw[if_pos e,if_pos e];exact r.IT k ry
 ·rw[if_neg e,if_neg e];exact Paired.snoc r ⟨rfl,ry⟩
end
theorem A1{P:Program}{w:World}{k:Key}{u:Value}(r:RelV (kV k) u):(df P w).is k u=true:=by
 cases k with
 | inl i=>obtain⟨t,e⟩:=(show ∃t,u=Value.int i t from r);subst e;exact uK P w i t
 | inr x=>obtain⟨t,e⟩:=(show ∃t,u=Value.str x t from r);subst e;exact uQ P w x t
theorem qA{P:Program}{w:World}:∀{ks:List Key} {us:List Value},Vals (ks.map kV) us→ItemsAre (df P w) ks us
 | [],_,r=>by rw[List.map_nil] at r;cases r;exact .nil
 | k ::ks,_,r=>by
   rw[List.map_cons] at r
   cases r with
   | cons h t=>exact .cons (A1 h) (qA t)
noncomputable abbrev KT(H:Hp):List (List Key × V)→List (List Key × Addr × Value)→Prop:=Paired fun p q=>p.1=q.1∧H q.2.1=some (.tup (p.1.map kV))∧RelV p.2 q.2.2
theorem KT.val{H:Hp}{kvs:List (List Key × V)}{xs:List (List Key × Addr × Value)}(r:KT H kvs xs)(k:List Key):mv (kC kvs k) ((atKey xs k).map (·.2)):=by
 induction r with
 | nil=>exact True.intro
 | @cons p q ps qs h t ih=>
   obtain⟨h1,_,h2⟩:=h
   by_cases e:p.1=k
   ·have e':q.1=k:=h1.symm.trans e
    have b:atKey (q ::qs) k=some q.2:=by simp [atKey,List.find?_cons,e']
    rw[uF e,b];exact h2
   ·have e':¬q.1=k:=fun z=>e (h1.trans z)
    have b:atKey (q ::qs) k=atKey qs k:=by simp [atKey,List.find?_cons,e']
    rw[uY e,b];exact ih
section
variable {P:Program} {w:World} {H:Hp} {h:Heap} {a:Addr}
theorem DR{u:HO}(ok:k3 P w H h)(e:Rd H a u):d5 P w H h a u:=e.ok ok
theorem Bu{kvs:List (Key × V)}(ok:k3 P w H h)(e:Rd H a (.dK kvs)):kvs.length≤sizeLine∧(a==sysModules)=false∧∃vs,KV kvs vs∧h.DictOf (df P w) a vs:=
 show d5 P w H h a (.dK kvs) from DR ok e
theorem Hy{kvs:List (Key × V)}(ok:k3 P w H h)(e:H a=some (.dK kvs)):kvs.length≤sizeLine∧(a==sysModules)=false∧∃vs,KV kvs vs∧h.DictOf (df P w) a vs:=Bu ok (.inl e)
theorem BD{ks:List Key}(ok:k3 P w H h)(e:H a=some (.tup (ks.map kV))):(tupleKind (df P w)).is h ks a:=by
 obtain⟨_,its,r,o,h1,h2,n,h3⟩:=(show d5 P w H h a (.tup (ks.map kV)) from ok a _ e)
 exact⟨o,its.toArray,n,h1,h2,h3,by simpa using qA r⟩
theorem DG{kvs:List (List Key × V)}(ok:k3 P w H h)(e:Rd H a (.dT kvs)):kvs.length≤sizeLine∧(a==sysModules)=false∧
 ∃xs,KT H kvs xs∧h.DictOfH (tupleKind (df P w)) a xs:=by
 obtain⟨z,y,xs,r,o,es,ep,h1,h2,h3,h4,h5⟩:=(show d5 P w H h a (.dT kvs) from DR ok e)
 refine⟨z,y,xs,r,o,es,ep,h1,h2,h3,h4,fun x hx=>?_,h5⟩
 have all:∀{l:List (List Key × V)} {m:List (List Key × Addr × Value)},KT H l m→∀x∈m,(tupleKind (df P w)).is h x.1 x.2.1:=by
  intro l m q
  induction q with
  | nil=>intro x hx;exact nomatch hx
  | @cons p q ps qs hq t ih=>
    intro x hx
    rcases List.mem_cons.mp hx with e | hx
    ·subst e
     exact BD ok (by rw[←hq.1];exact hq.2.1)
    ·exact ih x hx
 exact all r x hx
end
noncomputable def qy(H:Hp)(a:Addr)(y:V)(r:Option V):Prop:=
 (∃kvs k,Rd H a (.dK kvs)∧y=kV k∧r=kC kvs k)∨∃kvs k b,Rd H a (.dT kvs)∧y= .ref b∧H b=some (.tup (k.map kV))∧r=kC kvs k
noncomputable def G_(H:Hp)(a:Addr)(y v:V)(H':Hp):Prop:=
 (∃kvs k,H a=some (.dK kvs)∧y=kV k∧kvs.length < sizeLine∧H'=upd H a (.dK (putK kvs k v)))∨
 ∃kvs k b,H a=some (.dT kvs)∧y= .ref b∧H b=some (.tup (k.map kV))∧kvs.length < sizeLine∧H'=upd H a (.dT (putK kvs k v))
theorem qy.k{H:Hp}{a:Addr}{kvs:List (Key × V)}{k:Key}(e:H a=some (.dK kvs)):qy H a (kV k) (kC kvs k):= .inl ⟨kvs,k, .inl e,rfl,rfl⟩
section
variable {X:Cx} {pins:List (Addr × Obj)} {σ:St} {H:Hp} {s:Shared} {a:Addr} {y v:V} {u r:Value} {o:Option V} {A:Around} {E:Value→Shared→Prop}
theorem Inv.big(I:Inv X pins σ H s):sysModules < s.heap.objs.size:=by
 have h:mainGlobals < s.heap.objs.size:=(I.mod.glob.keeps I.bk).lt
 exact Nat.lt_trans (by decide) h
theorem B5{h':Heap}{t':Nat}{ob:HO}(I:Inv X pins σ H s)(mu:Hq (H a))(hs:Heap.SameBut a s.heap h')(he:∃q,h'.get? a=some q)(new:d5 X.prog X.w (upd H a ob) h' a ob) :
 Inv X pins σ (upd H a ob) {s with heap:=h',toks:=t'}:=
 I.write (x:=a) (e:=a) mu (.inl rfl) (fun b q hb z=>(hs.2 b hb).trans z) he new
theorem Ez{P:Program}{w:World}{H':Hp}{h':Heap}{kvs:List (Key × V)}{vs:List (Key × Value)}(z:kvs.length≤sizeLine)(hd:(a==sysModules)=false)(rel:KV kvs vs)(dd:h'.DictOf (df P w) a vs) :
 d5 P w H' h' a (.dK kvs):=⟨z,hd,vs,rel,dd⟩
end
section
variable {X:Cx} {pins:List (Addr × Obj)} {σ:St} {H:Hp} {s:Shared} {a:Addr} {kvs:List (Key × V)} {k:Key} {u:Value} {A:Around} {E:Value→Shared→Prop}
end
noncomputable def K7(i:Expr):Prop:=∀ov iv,subscripted i false ov iv=operate [ov,iv] (getItem ov iv)
noncomputable def JD(td ty:TE):TE:=fun σ H Q=>td σ H fun x H1=>ty σ H1 fun y H2=>∃a v,x= .ref a∧qy H2 a y (some v)∧Q v H2
noncomputable def KY(ty td:TE):TE:=fun σ H Q=>ty σ H fun y H1=>td σ H1 fun x H2=>∃a o,x= .ref a∧qy H2 a y o∧Q (.bl o.isSome) H2
noncomputable def HV(ty td:TE):TE:=fun σ H Q=>ty σ H fun y H1=>td σ H1 fun x H2=>∃a o,x= .ref a∧qy H2 a y o∧Q (.bl (!o.isSome)) H2
noncomputable def JK(td ty tv:TE):TS:=fun D σ H=>tv σ H fun v H1=>td σ H1 fun x H2=>ty σ H2 fun y H3=>∃a H4,x= .ref a∧G_ H3 a y v H4∧D.nx σ H4
noncomputable def JY(td ty tv:TE)(rd:V→V→Hp→VK→Prop):TS:=fun D σ H=>td σ H fun x H1=>ty σ H1 fun y H2=>∃a v,x= .ref a∧qy H2 a y (some v)∧
 tv σ H2 fun y2 H3=>rd v y2 H3 fun z H4=>∃H5,G_ H4 a y z H5∧D.nx σ H5
noncomputable def JO(td ty:TE):TS:=fun D σ H=>td σ H fun x H1=>ty σ H1 fun y H2=>∃a kvs k,x= .ref a∧H2 a=some (.dK kvs)∧y=kV k∧(kC kvs k).isSome=true∧D.nx σ (upd H2 a (.dK (zq kvs k)))
section
variable {X:Cx} {o i e value:Expr} {pos pos' tpos:Pos} {td ty tv:TE}
end
theorem zu{P:Program}{w:World}{H:Hp}(h:Heap)(hb:sysModules < h.objs.size):d5 P w H (h.push {cls:= .type "dict",data:= .dict #[]}) h.objs.size (.dK []):=
 ⟨Nat.zero_le _,beq_eq_false_iff_ne.mpr (Ne.symm (Nat.ne_of_lt hb)),[], .nil,Heap.DictOf.new h⟩
noncomputable def Jn:TE:=fun _ H Q=>∀p,H p=none→Q (.ref p) (upd H p (.dK []))
noncomputable def Ip:TE:=fun _ H Q=>∀p,H p=none→Q (.ref p) (upd H p (.dT []))
section
variable {X:Cx} {pos:Pos}
end
noncomputable def oS:List (TE × TE)→St→Hp→(List (V × V)→Hp→Prop)→Prop
 | [],_,H,Q=>Q [] H
 | (tk,tv) ::r,σ,H,Q=>tk σ H fun x H1=>tv σ H1 fun y H2=>oS r σ H2 fun ps H3=>Q ((x,y) ::ps) H3
noncomputable abbrev VV:List (V × V)→List (Value × Value)→Prop:=Paired fun p q=>RelV p.1 q.1∧RelV p.2 q.2
noncomputable def Gn(X:Cx)(pos:Pos)(keys:List (Option Expr))(values:List Expr)(trs:List (TE × TE)):Prop:=
 ∀(pins:List (Addr × Obj)) (s:Shared) (σ:St) (H:Hp) (Q:List (V × V)→Hp→Prop),Inv X pins σ H s→oS trs σ H Q→
  wpAny (model X.prog X.w) X.A (evalPairs (pairTrees keys values X.env pos)) (fun vs s'=>∃ps H',Inv X pins σ H' s'∧VV ps vs∧Q ps H') X.xe s
theorem x_{X:Cx}{pos:Pos}:Gn X pos [] [] []:=fun pins s σ H Q I h=>pairTrees_nil_walk ⟨[],H,I, .nil,h⟩
theorem mq{X:Cx}{pos:Pos}{k v:Expr}{ks:List (Option Expr)}{vs:List Expr}{tk tv:TE}{trs:List (TE × TE)}(hk:PE X k tk)(hv:PE X v tv)(hr:Gn X pos ks vs trs) :
 Gn X pos (some k ::ks) (v ::vs) ((tk,tv) ::trs):=fun pins s σ H Q I h=>
 pairTrees_cons_walk (dR (hk pins s σ H _ I h) fun u s1 ⟨x,H1,I1,rx,q1⟩=>dR (hv pins s1 σ H1 _ I1 q1) fun w2 s2 ⟨y,H2,I2,ry,q2⟩=>
  dR (hr pins s2 σ H2 _ I2 q2) fun ws s3 ⟨ps,H3,I3,rel,q3⟩=>⟨(x,y) ::ps,H3,I3, .cons ⟨rx,ry⟩ rel,q3⟩)
noncomputable def iW(kvs more:List (Key × V)):List (Key × V):=more.foldl (fun acc kv=>putK acc kv.1 kv.2) kvs
theorem KV.merge:∀{more:List (Key × V)} {rs:List (Key × Value)} {kvs:List (Key × V)} {vs:List (Key × Value)},KV more rs→KV kvs vs→KV (iW kvs more) (merged vs rs):=by
 intro more rs kvs vs r
 unfold KV at r
 induction r generalizing kvs vs with
 | nil=>intro q;exact q
 | @cons p q ps qs h t ih=>
   intro r0
   have e:KV (putK kvs p.1 p.2) (stored vs q.1 q.2):=by
    have:=r0.put p.1 h.2
    rw[←h.1];exact this
   exact ih e
theorem k7:∀(more kvs:List (Key × V)),(iW kvs more).length≤kvs.length+more.length
 | [],kvs=>by show kvs.length≤kvs.length+0;omega
 | p ::r,kvs=>by
   have h1:=k7 r (putK kvs p.1 p.2)
   have h2:=tZ kvs p.1 p.2
   show(iW (putK kvs p.1 p.2) r).length≤_
   rw[List.length_cons];omega
theorem o9{P:Program}{w:World}:∀{kvs:List (Key × V)} {ws:List (Value × Value)},VV (kvs.map fun kv=>(kV kv.1,kv.2)) ws→∃rs,Carries (df P w) ws rs∧KV kvs rs
 | [],_,r=>by rw[List.map_nil] at r;cases r;exact⟨[],True.intro, .nil⟩
 | p ::kvs,_,r=>by
   rw[List.map_cons] at r
   cases r with
   | @cons a b as bs h t=>
     obtain⟨rs,c,q⟩:=o9 (P:=P) (w:=w) t
     obtain⟨b1,b2⟩:=b
     exact⟨(p.1,b2) ::rs,⟨A1 h.1,rfl,c⟩, .cons ⟨rfl,h.2⟩ q⟩
noncomputable def Av(trs:List (TE × TE)):TE:=fun σ H Q=>∀p,H p=none→oS trs σ (upd H p (.dK [])) fun ps H2=>H2 p=some (.dK [])∧∃kvs:List (Key × V),ps=kvs.map (fun kv=>(kV kv.1,kv.2))∧kvs.length≤15∧Q (.ref p) (upd H2 p (.dK (iW [] kvs)))
theorem C3{X:Cx}{pos:Pos}{keys:List (Option Expr)}{values:List Expr}{trs:List (TE × TE)}(h:Gn X pos keys values trs)(hall:keys.all (·.isSome)=true)(hl:keys.length=values.length)(h0:keys≠[])
 (h15:keys.length≤15):PE X (.Dict keys values pos) (Av trs):=by
 intro pins s σ H Q I q
 have hn:=I.hok.fresh (Nat.le_refl s.heap.objs.size)
 have I1:=I.laid (a:=s.heap.objs.size) (o:= .dK []) (h':=s.heap.push {cls:= .type "dict",data:= .dict #[]}) (t':=s.toks) (fun _ _ q=>Heap.get?_push_of_some _ q) (Nat.le_refl _) (zu s.heap I.big)
 refine wpAny_Dict_walk (knd:=df X.prog X.w) hall hl h0 h15 (dR (h pins _ σ _ _ I1 (q _ hn)) fun ws s2 ⟨ps,H2,I2,rel,e,kvs,ep,lk,q2⟩=>?_)
 subst ep
 obtain⟨rs,c,rk⟩:=o9 (P:=X.prog) (w:=X.w) rel
 obtain⟨z,hd,vs0,r0,dd⟩:=Hy I2.hok e
 cases r0
 refine⟨rs,c,dd,fun h' dd' hs=>⟨.ref s.heap.objs.size,_,?_,rfl,q2⟩⟩
 have hz:(iW [] kvs).length≤sizeLine:=by
  have h1:=k7 kvs []
  rw[List.length_nil] at h1
  rw[sizeLine_eq];omega
 have he:∃q,h'.get? s.heap.objs.size=some q:=let⟨q,_,_,hq,_⟩:=dd';⟨q,hq⟩
 exact B5 I2 (by rw[e];exact True.intro) hs he (Ez hz hd (rk.merge .nil) dd')
structure M1 (X:Cx) (o:Expr) (m:Str) (apos:Pos) (e:Expr) (cpos:Pos):Prop where
 base:attributeBase o m X.env (eval o X.env)=eval o X.env
 few:((backTo cpos (starEach [e] X.env)).all (fun x=>!x.1) && (backToKw cpos (keywordEach [] X.env)).all (fun x=>x.1.isSome)
  && decide (([e]:List Expr).length+([]:List Keyword).length+(if([]:List Keyword).isEmpty then 0 else 1) < 30))=true
 line:(apos.endLine==cpos.line)=true
 trees:backTo cpos (starEach [e] X.env)=[(false,eval e X.env)]
structure M2 (X:Cx) (o:Expr) (m:Str) (apos:Pos) (e f:Expr) (cpos:Pos):Prop where
 base:attributeBase o m X.env (eval o X.env)=eval o X.env
 few:((backTo cpos (starEach [e,f] X.env)).all (fun x=>!x.1) && (backToKw cpos (keywordEach [] X.env)).all (fun x=>x.1.isSome)
  && decide (([e,f]:List Expr).length+([]:List Keyword).length+(if([]:List Keyword).isEmpty then 0 else 1) < 30))=true
 line:(apos.endLine==cpos.line)=true
 trees:backTo cpos (starEach [e,f] X.env)=[(false,eval e X.env),(false,eval f X.env)]
noncomputable def GG(H:Hp)(a:Addr):Prop:=(∃kvs,Rd H a (.dK kvs))∨∃kvs,Rd H a (.dT kvs)
theorem E9{X:Cx}{pins:List (Addr × Obj)}{σ:St}{H:Hp}{s:Shared}{a:Addr}(I:Inv X pins σ H s)(d:GG H a) :
 s.TypeIs (.ref a) "dict"∧(∀b,Value.ref a= .ref b→∃ob,s.heap.get? b=some ob∧ob.dict=none)∧(a==sysModules)=false:=by
 rcases d with⟨kvs,e⟩ | ⟨kvs,e⟩
 ·obtain⟨_,hd,vs,_,dd⟩:=Bu I.hok e
  refine⟨dd.typeIs,fun b q=>?_,hd⟩
  cases q
  obtain⟨ob,_,_,h1,h2,_⟩:=dd
  exact⟨ob,h1,h2.2.1⟩
 ·obtain⟨_,hd,xs,_,dd⟩:=DG I.hok e
  refine⟨dd.typeIs,fun b q=>?_,hd⟩
  cases q
  obtain⟨ob,_,_,h1,h2,_⟩:=dd
  exact⟨ob,h1,h2.2.1⟩
section
variable {X:Cx} {pins:List (Addr × Obj)} {σ:St} {H:Hp} {s:Shared} {a:Addr} {y d:V} {u r:Value} {o:Option V} {A:Around} {E:Value→Shared→Prop}
theorem EM{Q:Value→Shared→Prop}(hu:A.units+1 < cLine)(I:Inv X pins σ H s)(g:qy H a y o)(ry:RelV y u)(rd:RelV d r)(h:∀w' s',Inv X pins σ H s'→RelV (o.getD d) w'→Q w' s') :
 wpAny (model X.prog X.w) A (call (.builtin "dict.get") [.ref a,u,r]) Q E s:=by
 rcases g with⟨kvs,k,e,ey,l⟩ | ⟨kvs,k,b,e,ey,eb,l⟩
 ·subst ey
  obtain⟨z,hd,vs,rel,dd⟩:=Bu I.hok e
  refine call_meetsIn PySem.F.slot_dict_get dd.typeIs PySem.F.entry_dict_get (PySem.F.args_dict_get_3 _ _ _) (meets_dict_get_default (df X.prog X.w) a (A1 ry) hd r) ⟨_,dd.mapOf,h _ _ (I.tok _) ?_⟩
  rw[l]
  exact(rel.val k).getD rd
 ·subst ey
  cases(show u=Value.ref b from ry)
  obtain⟨z,hd,xs,rel,dd⟩:=DG I.hok e
  refine call_meetsIn PySem.F.slot_dict_get dd.typeIs PySem.F.entry_dict_get (PySem.F.args_dict_get_3 _ _ _) (meetsH_dict_get_default (tupleKind (df X.prog X.w)) a b hd r) ⟨tupleKind_room_in1 hu,k,xs,BD I.hok eb,dd,h _ _ (I.tok _) ?_⟩
  rw[l]
  exact(rel.val k).getD rd
end
noncomputable def Ii(td ty:TE):TE:=fun σ H Q=>td σ H fun x H1=>∃a,x= .ref a∧GG H1 a∧ty σ H1 fun y H2=>∃o,qy H2 a y o∧Q (o.getD .cK) H2
noncomputable def FJ(td ty tx:TE):TE:=fun σ H Q=>td σ H fun x H1=>∃a,x= .ref a∧GG H1 a∧ty σ H1 fun y H2=>tx σ H2 fun z H3=>∃o,qy H3 a y o∧Q (o.getD z) H3
noncomputable def IY(td ty:TE):TE:=fun σ H Q=>td σ H fun x H1=>∃a,x= .ref a∧GG H1 a∧ty σ H1 fun y H2=>∃kvs k v,H2 a=some (.dK kvs)∧y=kV k∧kC kvs k=some v∧Q v (upd H2 a (.dK (zq kvs k)))
noncomputable def Ig(td ty tx:TE):TE:=fun σ H Q=>td σ H fun x H1=>∃a,x= .ref a∧GG H1 a∧ty σ H1 fun y H2=>tx σ H2 fun z H3=>∃kvs k,H3 a=some (.dK kvs)∧y=kV k∧
 (∀v,kC kvs k=some v→Q v (upd H3 a (.dK (zq kvs k))))∧(kC kvs k=none→Q z H3)
section
variable {X:Cx} {o e f:Expr} {apos cpos:Pos} {td ty tx:TE}
theorem Bi(hu:X.A.units+1 < cLine)(ho:PE X o td)(he:PE X e ty)(hf:PE X f tx)(m:M2 X o "get" apos e f cpos):PE X (.Call (.Attribute o "get" apos) [e,f] [] cpos) (FJ td ty tx):=by
 intro pins s σ H Q I h
 refine wpAny_Call_method m.base m.few m.line PySem.F.plainAttrs_dict PySem.F.slot_dict_get PySem.F.type_dict_get (dR (ho pins s σ H _ I h) fun u s1 ⟨x,H1,I1,rx,a,ex,d,q1⟩=>?_)
 subst ex
 obtain rfl:u=Value.ref a:=rx
 obtain⟨t1,t2,_⟩:=E9 I1 d
 refine⟨t1,t2,?_⟩
 rw[m.trees]
 refine Calls.callWith_builtin rfl (Calls.evalArgs_plain (Calls.spliced_cons (dR (he pins s1 σ H1 _ I1 q1) fun iv s2 ⟨y,H2,I2,ry,q2⟩=>
  Calls.spliced_cons (dR (hf pins s2 σ H2 _ I2 q2) fun fv s3 ⟨z,H3,I3,rz,ov,g,q3⟩=>Calls.spliced_nil ?_))))
 exact EM hu I3 g ry rz fun w' s4 I4 rw'=>⟨_,H3,I4,rw',q3⟩
end
section
variable {X:Cx} {pins:List (Addr × Obj)} {σ:St} {H:Hp} {s:Shared} {a:Addr} {kvs:List (Key × V)} {A:Around} {E:Value→Shared→Prop}
end
section
variable {X:Cx} {pins:List (Addr × Obj)} {σ:St} {H:Hp} {s:Shared} {a:Addr} {y:V} {u:Value} {A:Around} {E:Value→Shared→Prop}
end
end L2
namespace HT
open PySem PyProof.Rows
noncomputable def lexLt:List Int→List Int→Bool
 | [],[]=>false
 | [],_ ::_=>true
 | _ ::_,[]=>false
 | x ::xs,y ::ys=>if x=y then lexLt xs ys else decide (x < y)
section
open PySem.SeqAt
open PySem.AutoSeq1 (wpAny_loadPart')
open PySem.MeetsSeq PySem.MeetsSeq2 PySem.MeetsSeq3
end
section
variable {prog:Program} {w:World} {A:Around} {E:Value→Shared→Prop} {s:Shared}
theorem C_{t b:Addr}{vs ws:List Value}{Q:Value→Shared→Prop}(ht:IsTup s.heap t vs.toArray)(hb:IsTup s.heap b ws.toArray)(hv:vs≠[])
 (h1:ws=[]→Q (.ref t) s) (h2:ws≠[]→Q (.ref s.heap.objs.size) {s with heap:=s.heap.push {cls:= .type "tuple",data:= .seq (vs++ws).toArray}})
 (hsz:vs.length+ws.length≤sizeLine):wpAny (model prog w) A (binaryOp .Add (.ref t) (.ref b)) Q E s:=by
 obtain⟨⟨cls,dd,data,sl⟩,ho,hc,n,hd⟩:=id ht
 obtain⟨⟨cls2,dd2,data2,sl2⟩,ho2,hc2,n2,hd2⟩:=id hb
 simp only at hc hd hc2 hd2
 subst hc hd hc2 hd2
 have e:vs.toArray++ws.toArray=(vs++ws).toArray:=by simp
 by_cases hw:ws=[]
 ·exact concat_meets ⟨_,ho,rfl⟩ ⟨_,ho2,rfl⟩ noFill_tuple_add seq_tuple_add PySem.F.slot_tuple_add PySem.F.entry_tuple_add (PySem.F.args_tuple_add_2 _ _)
   (tuple_addW1 t b vs.toArray ws.toArray n n2 dd dd2 sl sl2 (by simpa using hv) (by simp [hw])) ⟨ho,ho2,h1 hw⟩
 ·refine concat_meets ⟨_,ho,rfl⟩ ⟨_,ho2,rfl⟩ noFill_tuple_add seq_tuple_add PySem.F.slot_tuple_add PySem.F.entry_tuple_add (PySem.F.args_tuple_add_2 _ _)
   (tuple_addW2 t b vs.toArray ws.toArray n n2 dd dd2 sl sl2 (by simpa using hv) (by simpa using hw) (by rw[List.size_toArray,List.size_toArray];exact hsz)) ⟨ho,ho2,?_⟩
  rw[e]
  exact h2 hw
noncomputable def fP(n d:Nat):Option Int→Nat
 | none=>d
 | some v=>if v < 0 then(v+(n:Int)).toNat else min v.toNat n
theorem oJ(n d:Nat):fP n d none=d:=rfl
theorem sO(n d k:Nat):fP n d (some (k:Int))=min k n:=by
 show(if(k:Int) < 0 then((k:Int)+(n:Int)).toNat else min (k:Int).toNat n)=min k n
 rw[if_neg (by omega),Int.toNat_natCast]
theorem F0(n d:Nat)(hd:d≤n)(o:Option Int):fP n d o≤n:=by
 cases o with
 | none=>exact hd
 | some v=>
   show(if v < 0 then(v+(n:Int)).toNat else min v.toNat n)≤n
   by_cases hv:v < 0
   ·rw[if_pos hv];omega
   ·rw[if_neg hv];exact Nat.min_le_right _ _
theorem xo(v:Int)(n d:Nat):(if v < 0 then max (v+(n:Int)) 0 else min v (n:Int))=((fP n d (some v):Nat):Int):=by
 show(if v < 0 then max (v+(n:Int)) 0 else min v (n:Int))=(((if v < 0 then(v+(n:Int)).toNat else min v.toNat n):Nat):Int)
 by_cases hv:v < 0
 ·simp only[if_pos hv];omega
 ·simp only[if_neg hv];omega
theorem vL(lo hi:Option Int)(n:Nat):Builtin.Slice.sliceAdjust lo hi 1 (n:Int)=(((fP n 0 lo:Nat):Int),((fP n n hi:Nat):Int)):=by
 have h1:¬((1:Int) < 0):=by omega
 unfold Builtin.Slice.sliceAdjust
 simp only[h1,if_false]
 refine Prod.ext ?_ ?_
 ·cases lo with
  | none=>rfl
  | some v=>exact xo v n 0
 ·cases hi with
  | none=>rfl
  | some v=>exact xo v n n
theorem vA(i j:Nat):Builtin.Slice.slicePlaces (i:Int) (j:Int) 1=j - i:=by
 unfold Builtin.Slice.slicePlaces
 have h1:(1:Int) > 0:=by omega
 simp only[h1,if_true,Int.ediv_one]
 split <;> omega
theorem o7{v:Value}{o:Option Int}{Q:Option Int→Shared→Prop}(p:IsPart v o)(h:Q o s):wpAny (model prog w) A (Builtin.Slice.slicePartIndex v) Q E s:=by
 cases p with
 | none=>exact slicePart_none h
 | int i t=>exact slicePart_int h
theorem m_{sl:Addr}{vl vu:Value}{lo hi:Option Int}{n:Nat}{Q:Int × Int × Nat→Shared→Prop}(hs:s.heap.IsSliceOf sl vl vu .none)(pl:IsPart vl lo)(pu:IsPart vu hi)
 (h:Q (((fP n 0 lo:Nat):Int),1,fP n n hi - fP n 0 lo) s):wpAny (model prog w) A (Builtin.Slice.sliceApplied (.ref sl) (pure (n:Int))) Q E s:=by
 obtain⟨os,hos,hcs,hds⟩:=id hs
 unfold Builtin.Slice.sliceApplied Builtin.Slice.sliceFields
 refine wpAny_bind (wpAny_bind (wpAny_field hos hds (x:=vl) rfl (wpAny_bind (wpAny_field hos hds (x:=vu) rfl (wpAny_bind (wpAny_field hos hds (x:= .none) rfl (wpAny_pure ?_)))))))
 refine wpAny_bind (slicePart_none ?_)
 show wpAny _ _ (if((1:Int)==0)=true then _ else _) _ _ s
 rw[if_neg (by decide)]
 refine wpAny_bind (o7 pl (wpAny_bind (o7 pu (wpAny_bind (wpAny_pure ?_)))))
 show wpAny _ _ (match Builtin.Slice.sliceAdjust lo hi 1 (n:Int) with | (lo,hi)=>pure (lo,(1:Int),Builtin.Slice.slicePlaces lo hi 1)) _ _ s
 rw[vL lo hi n]
 show wpAny _ _ (pure (((fP n 0 lo:Nat):Int),(1:Int),Builtin.Slice.slicePlaces ((fP n 0 lo:Nat):Int) ((fP n n hi:Nat):Int) 1)) _ _ s
 rw[vA]
 exact wpAny_pure h
theorem Aq(xs:Array Value)(i k:Nat):((List.range k).filterMap fun(m:Nat)=>xs[((i:Int)+(m:Int)*1).toNat]?).toArray=((xs.toList.drop i).take k).toArray:=by
 have e:(fun(m:Nat)=>xs[((i:Int)+(m:Int)*1).toNat]?)=fun m=>xs[i+m]?:=by
  funext m
  have:((i:Int)+(m:Int)*1).toNat=i+m:=by omega
  rw[this]
 rw[e]
 have:=pick_run xs i k
 rw[List.filterMap_map] at this
 have e2:((fun x=>xs[x]?) ∘ fun x=>i+x)=fun m=>xs[i+m]?:=rfl
 rw[e2] at this
 rw[this]
theorem mN{t sl:Addr}{items:Array Value}{vl vu:Value}{lo hi:Option Int}{Q:Value→Shared→Prop}(ht:IsTup s.heap t items)(hs:s.heap.IsSliceOf sl vl vu .none)(pl:IsPart vl lo)(pu:IsPart vu hi)
 (hw:¬(fP items.size 0 lo=0∧fP items.size items.size hi=items.size))
 (h:Q (.ref s.heap.objs.size) {s with heap:=s.heap.push {cls:= .type "tuple",data:= .seq ((items.toList.drop (fP items.size 0 lo)).take (fP items.size items.size hi - fP items.size 0 lo)).toArray}})
 (hsz:items.size≤sizeLine):wpAny (model prog w) A (getItem (.ref t) (.ref sl)) Q E s:=by
 have htake:sizeOk (.seq ((items.toList.drop (fP items.size 0 lo)).take (fP items.size items.size hi - fP items.size 0 lo)).toArray):=by
  show((items.toList.drop (fP items.size 0 lo)).take (fP items.size items.size hi - fP items.size 0 lo)).toArray.size≤sizeLine
  rw[List.size_toArray,List.length_take,List.length_drop,Array.length_toList]
  omega
 have hj:fP items.size items.size hi≤items.size:=F0 _ _ (Nat.le_refl _) hi
 obtain⟨os,hos,hcs,hds⟩:=id hs
 have hTs:s.TypeIs (.ref sl) "slice":=⟨os,hos,hcs⟩
 unfold getItem
 try with_reducible refine wpAny_holding ?_
 first | refine wpAny_bind (wpAny_pure ?_) | skip
 refine wpAny_bind (wpAny_sequenceKey ht.typeIs (by decide) ?_)
 refine wpAny_bind (wpAny_callSpecial?_slot (name:=Str.ofString "__getitem__") ht.typeIs PyProof.Rows.slot_tuple_getitem
  (wpAny_call_entry PyProof.Rows.slot_tuple_getitem ht.typeIs entry_tuple_getitem ?_ (args_tuple_getitem _ _)))
 show wpAny _ _ (Builtin.Tuple.tupleItemsOf (.ref t) >>=_) _ _ s
 refine wpAny_bind (tupleItemsOf_ ht ?_)
 refine wpAny_bind (wpAny_typeOf hTs ?_)
 rw[if_pos (by decide)]
 refine wpAny_bind (m_ hs pl pu ?_)
 have hno:¬((((fP items.size 0 lo:Nat):Int)==0 && (1:Int)==1 && (fP items.size items.size hi - fP items.size 0 lo)==items.size)=true):=by
  intro q
  rw[Bool.and_eq_true,Bool.and_eq_true] at q
  have q1:((fP items.size 0 lo:Nat):Int)=0:=eq_of_beq q.1.1
  have q2:fP items.size items.size hi - fP items.size 0 lo=items.size:=eq_of_beq q.2
  exact hw ⟨by omega,by omega⟩
 show wpAny _ _ (if(((fP items.size 0 lo:Nat):Int)==0 && (1:Int)==1 && (fP items.size items.size hi - fP items.size 0 lo)==items.size)=true then _ else _) _ _ s
 rw[if_neg hno,Aq]
 first
  | exact wpAny_bind (m:=Builtin.Tuple.tupleExact _) (wpAny_newObj_type (wpAny_pure ⟨_,rfl,wpAny_pure h⟩) htake)
  | exact wpAny_bind (m:=Builtin.Tuple.tupleExact _) (wpAny_newObj_type (wpAny_bind (wpAny_pure (wpAny_pure ⟨_,rfl,wpAny_pure h⟩))) htake)
  | exact wpAny_bind (wpAny_bind (m:=Builtin.Tuple.tupleExact _) (wpAny_newObj_type (wpAny_pure (wpAny_pure ⟨_,rfl,wpAny_pure h⟩)) htake))
  | exact wpAny_bind (wpAny_bind (m:=Builtin.Tuple.tupleExact _) (wpAny_newObj_type (wpAny_pure ⟨_,rfl,wpAny_pure h⟩) htake))
end
end HT
namespace L2
open PySem PySem.Spec PyProof.Rows
noncomputable abbrev TO:=St→Hp→(Option Int→Hp→Prop)→Prop
noncomputable def PO(X:Cx)(e:Option Expr)(t:TO):Prop:=
 ∀(pins:List (Addr × Obj)) (s:Shared) (σ:St) (H:Hp) (Q:Option Int→Hp→Prop),Inv X pins σ H s→t σ H Q→
  wpAny (model X.prog X.w) X.A (evalPart e X.env) (fun u s'=>∃o H',Inv X pins σ H' s'∧IsPart u o∧Q o H') X.xe s
noncomputable def CQ:TO:=fun _ H Q=>Q none H
noncomputable def GC(t:TE):TO:=fun σ H Q=>t σ H fun x H1=>∃i,x= .int i∧Q (some i) H1
section
variable {X:Cx} {e:Expr} {te:TE} {lo hi:Option Expr} {tl th:TO} {pos p2:Pos}
theorem xH:PO X none CQ:=by
 intro pins s σ H Q I h
 rw[evalPart_none]
 exact wpAny_pure ⟨none,H,I, .none,h⟩
theorem xk(h:PE X e te):PO X (some e) (GC te):=by
 intro pins s σ H Q I hw
 rw[evalPart_some]
 refine dR (h pins s σ H _ I hw) fun u s1 ⟨x,H1,I1,r1,q1⟩=>?_
 obtain⟨i,rfl,q⟩:=q1
 obtain⟨t,rfl⟩:=r1
 exact⟨some i,H1,I1, .int i t,q⟩
noncomputable def DZ(X:Cx)(r:V→Option Int→Option Int→Hp→VK→Prop):Prop:=
 ∀(pins:List (Addr × Obj)) (s:Shared) (σ:St) (H:Hp) (x:V) (v vl vu:Value) (lo hi:Option Int) (sl:Addr) (Q:VK),Inv X pins σ H s→RelV x v→s.heap.IsSliceOf sl vl vu .none→IsPart vl lo→IsPart vu hi→r x lo hi H Q→
  ∃T id,typeLookup (.type T) "__getitem__"=pure (some (.builtin id))∧s.TypeIs v T∧wpAny (model X.prog X.w) X.A (getItem v (.ref sl)) (EP X pins σ Q) X.xe s
theorem DZ.or{r r':V→Option Int→Option Int→Hp→VK→Prop}(h:DZ X r)(h':DZ X r'):DZ X (fun x lo hi H Q=>r x lo hi H Q∨r' x lo hi H Q):=by
 intro pins s σ H x v vl vu lo hi sl Q I rx hs pl pu q
 rcases q with q | q
 ·exact h pins s σ H x v vl vu lo hi sl Q I rx hs pl pu q
 ·exact h' pins s σ H x v vl vu lo hi sl Q I rx hs pl pu q
noncomputable def La(r:V→Option Int→Option Int→Hp→VK→Prop)(te:TE)(tl th:TO):TE:=fun σ H Q=>te σ H fun x H1=>tl σ H1 fun l H2=>th σ H2 fun u H3=>r x l u H3 Q
theorem pN{r:V→Option Int→Option Int→Hp→VK→Prop}(hr:DZ X r)(he:PE X e te)(hl:PO X lo tl)(hu:PO X hi th):PE X (.Subscript e (.Slice lo hi none p2) pos) (La r te tl th):=by
 intro pins s σ H Q I h
 refine Subscript_ (dR (he pins s σ H _ I h) fun v s1 ⟨x,H1,I1,r1,q1⟩=>?_)
 refine wpAny_Slice (dR (hl pins s1 σ H1 _ I1 q1) fun vl s2 ⟨l,H2,I2,pl,q2⟩=>dR (hu pins s2 σ H2 _ I2 q2) fun vu s3 ⟨u,H3,I3,pu,q3⟩=>?_)
 rw[evalPart_none]
 refine wpAny_pure ?_
 have I4:Inv X pins σ H3 {s3 with heap:=s3.heap.push {cls:= .type "slice",data:= .fields #[vl,vu, .none]}}:=I3.kept (t':=s3.toks) fun b ob q=>Heap.get?_push_of_some _ q
 obtain⟨T,id,hT,ht,hg⟩:=hr pins {s3 with heap:=s3.heap.push {cls:= .type "slice",data:= .fields #[vl,vu, .none]}} σ H3 x v vl vu l u s3.heap.objs.size Q I4 r1 (Heap.IsSliceOf.new ..) pl pu q3
 show wpAny (model X.prog X.w) X.A (subscriptTail e (.Slice lo hi none p2) v (.ref s3.heap.objs.size)) (EP X pins σ Q) X.xe {s3 with heap:=s3.heap.push {cls:= .type "slice",data:= .fields #[vl,vu, .none]}}
 exact tail_any (ops:=[.ref s3.heap.objs.size,v]) ht hT hg (by with_unfolding_all rfl)
noncomputable def tM(xs:List V)(lo hi:Option Int):List V:=(xs.drop (HT.fP xs.length 0 lo)).take (HT.fP xs.length xs.length hi - HT.fP xs.length 0 lo)
theorem nW(xs:List V)(lo hi:Option Int):(tM xs lo hi).length≤xs.length:=by
 unfold tM
 rw[List.length_take,List.length_drop]
 omega
noncomputable def Jg(K:PySem.W.Frag):V→Option Int→Option Int→Hp→VK→Prop:=fun x lo hi H Q=>∃a xs,x= .ref a∧nV K H a xs∧
 ¬(HT.fP xs.length 0 lo=0∧HT.fP xs.length xs.length hi=xs.length)∧∀p,H p=none→Q (.ref p) (upd H p (.tup (tM xs lo hi)))
theorem Ef:DZ X (Jg X.K):=by
 intro pins s σ H x v vl vu lo hi sl Q I rx hs pl pu h
 obtain⟨a,xs,rfl,hx,hw,q⟩:=h
 cases rx
 obtain⟨its,r,ht,hz⟩:=I.tuple hx
 have hlen:its.toArray.size=xs.length:=by rw[List.size_toArray];exact r.length.symm
 refine⟨"tuple",_,PyProof.Rows.slot_tuple_getitem.lookup,ht.typeIs,?_⟩
 refine HT.mN ht hs pl pu (by rw[hlen];exact hw) ?_ (by rw[hlen];exact hz)
 rw[hlen]
 refine⟨.ref s.heap.objs.size,_,I.laid (t':=s.toks) (o:= .tup (tM xs lo hi)) (fun b ob q=>Heap.get?_push_of_some _ q) (Nat.le_refl _) ?_,rfl,q _ (I.hok.fresh (Nat.le_refl _))⟩
 exact⟨Nat.le_trans (nW xs lo hi) hz,_,(r.drop (HT.fP xs.length 0 lo)).take (HT.fP xs.length xs.length hi - HT.fP xs.length 0 lo),IsTup.new _ _⟩
noncomputable def K8(K:PySem.W.Frag):R2:=fun x y H Q=>∃a b ns ms,x= .ref a∧y= .ref b∧nV K H a (ns.map V.int)∧nV K H b (ms.map V.int)∧Q (.bl (HT.lexLt ns ms)) H
noncomputable def J3(K:PySem.W.Frag):R2:=fun x y H Q=>∃a b xs ys,x= .ref a∧y= .ref b∧nV K H a xs∧nV K H b ys∧xs≠[]∧xs.length+ys.length≤sizeLine∧
 (ys=[]→Q (.ref a) H)∧(ys≠[]→∀p,H p=none→Q (.ref p) (upd H p (.tup (xs++ys))))
end
end L2
namespace L2
open PySem PySem.Spec PyProof.Rows
noncomputable def pF(n:Nat)(i:Int):Option Nat:=if 0≤i then(if i < n then some i.toNat else none) else if -(n:Int)≤i then some (i+n).toNat else none
noncomputable def nK{α:Type}(xs:List α)(i:Int):Option α:=(pF xs.length i).bind fun j=>xs[j]?
theorem rF{n:Nat}{i:Int}{j:Nat}(h:pF n i=some j):seqIndex? i n=some j∧j < n∧ -(n:Int)≤i∧i < n:=by
 unfold pF at h
 by_cases h0:0≤i
 ·rw[if_pos h0] at h
  by_cases h1:i < n
  ·rw[if_pos h1] at h
   have e:i.toNat=j:=Option.some.inj h
   exact⟨by rw[seqIndex_of h0 h1,e],by omega,by omega,h1⟩
  ·rw[if_neg h1] at h;cases h
 ·rw[if_neg h0] at h
  by_cases h1: -(n:Int)≤i
  ·rw[if_pos h1] at h
   have e:(i+n).toNat=j:=Option.some.inj h
   exact⟨by rw[seqIndex_neg (by omega) h1,e],by omega,h1,by omega⟩
  ·rw[if_neg h1] at h;cases h
theorem rK{α:Type}{xs:List α}{i:Int}{v:α}(h:nK xs i=some v):∃j,seqIndex? i xs.length=some j∧xs[j]? =some v∧j < xs.length∧ -(xs.length:Int)≤i∧i < xs.length:=by
 unfold nK at h
 cases e:pF xs.length i with
 | none=>rw [e] at h;cases h
 | some j=>
   rw[e] at h
   obtain⟨h1,h2,h3,h4⟩:=rF e
   exact⟨j,h1,h,h2,h3,h4⟩
noncomputable def oz(b:Expr):Prop:=∀o i,subscripted b false o i=operate [o,i] (getItem o i)
noncomputable def CI(X:Cx)(r:R2):Prop:=
 ∀(value slice:Expr) (pins:List (Addr × Obj)) (s:Shared) (σ:St) (H:Hp) (x y:V) (v u:Value) (Q:VK),Inv X pins σ H s→RelV x v→RelV y u→r x y H Q→
  subscripted slice false v u=operate [v,u] (getItem v u)→wpAny (model X.prog X.w) X.A (subscriptTail value slice v u) (EP X pins σ Q) X.xe s
noncomputable def KZ(X:Cx)(id:String)(r:V→List V→Hp→VK→Prop):Prop:=
 ∀(pins:List (Addr × Obj)) (s:Shared) (σ:St) (H:Hp) (x:V) (xs:List V) (v:Value) (us:List Value) (Q:VK),Inv X pins σ H s→RelV x v→Vals xs us→r x xs H Q→
  wpAny (model X.prog X.w) X.A (call (.builtin id) (v ::us)) (EP X pins σ Q) X.xe s
section
variable {X:Cx} {a b:Expr} {ta tb:TE} {pos:Pos}
theorem CI.or{r r':R2}(h:CI X r)(h':CI X r'):CI X (fun x y H Q=>r x y H Q∨r' x y H Q):=by
 intro value slice pins s σ H x y v u Q I rx ry q hs
 rcases q with q | q
 ·exact h value slice pins s σ H x y v u Q I rx ry q hs
 ·exact h' value slice pins s σ H x y v u Q I rx ry q hs
theorem DH{r:R2}(hr:CI X r)(ha:PE X a ta)(hb:PE X b tb)(hs:oz b):PE X (.Subscript a b pos) (Gi r ta tb):=by
 intro pins s σ H Q I h
 exact Subscript_ (FL ha hb I h fun v u s2 x y H2 I2 rx ry q=>hr a b pins s2 σ H2 x y v u Q I2 rx ry q (hs _ _))
noncomputable def G5(K:PySem.W.Frag):R2:=fun x y H Q=>∃p xs i v,x= .ref p∧y= .int i∧kZ K H p xs∧nK xs i=some v∧Q v H
noncomputable def GU(K:PySem.W.Frag):R2:=fun x y H Q=>∃p xs i v,x= .ref p∧y= .int i∧nV K H p xs∧nK xs i=some v∧Q v H
noncomputable def GR:R2:=fun x y H Q=>∃z i c,x= .str z∧y= .int i∧z.length≤sizeLine∧nK z.cps.toList i=some c∧Q (.str ⟨#[c]⟩) H
theorem C7:CI X (G5 X.K):=by
 intro value slice pins s σ H x y v u Q I rx ry h hs
 obtain⟨p,xs,i,z,rfl,rfl,hq,he,q⟩:=h
 cases rx
 obtain⟨t,rfl⟩:=ry
 obtain⟨its,r,pl,hz⟩:=I.list hq
 obtain⟨j,h1,h2,h3,h4,h5⟩:=rK he
 obtain⟨w,ew,rw'⟩:=r.get h2
 have hl:=r.length
 have hn:=nc
 have fin:EP X pins σ Q w s:=⟨z,H,I,rw',q⟩
 by_cases h0:0≤i
 ·have hj:i.toNat=j:=by
   rw[seqIndex_of h0 h5] at h1
   exact Option.some.inj h1
  exact item_listR pl.isList h0 (by omega) (by rw[hj];simpa using ew) fin hs
 ·have hj:(i+(its.toArray.size:Int)).toNat=j:=by
   rw[seqIndex_neg (by omega) h4] at h1
   rw[List.size_toArray,←hl]
   exact Option.some.inj h1
  exact subscriptTail_builtinR (x:=w) pl.isList.typeIs slot_list_getitem.lookup
   (wpAny_getItem_list_neg (Q:=fun r s'=>r=w∧EP X pins σ Q r s') pl.isList (by omega) (by rw[List.size_toArray] <;> omega) (by omega) (by rw[hj];simpa using ew) ⟨rfl,fin⟩) hs
theorem FF:CI X (GU X.K):=by
 intro value slice pins s σ H x y v u Q I rx ry h hs
 obtain⟨p,xs,i,z,rfl,rfl,hq,he,q⟩:=h
 cases rx
 obtain⟨t,rfl⟩:=ry
 obtain⟨its,r,pl,hz⟩:=I.tuple hq
 obtain⟨j,h1,h2,h3,h4,h5⟩:=rK he
 obtain⟨w,ew,rw'⟩:=r.get h2
 have hl:=r.length
 have hn:=nc
 have fin:EP X pins σ Q w s:=⟨z,H,I,rw',q⟩
 exact subscriptTail_builtinR (x:=w) pl.typeIs slot_tuple_getitem.lookup
  (getItem_tuple (j:=j) (Q:=fun r s'=>r=w∧EP X pins σ Q r s') pl (by omega) (by omega) (by rw[List.size_toArray,←hl];exact h1) (by simpa using ew) ⟨rfl,fin⟩) hs
theorem Fy:CI X GR:=by
 intro value slice pins s σ H x y v u Q I rx ry h hs
 obtain⟨z,i,c,rfl,rfl,hz,he,q⟩:=h
 obtain⟨t,rfl⟩:=rx
 obtain⟨t',rfl⟩:=ry
 obtain⟨j,h1,h2,h3,h4,h5⟩:=rK he
 have hl:z.cps.toList.length=z.length:=by simp [Str.length]
 rw[hl] at h1 h4 h5
 have hn:=nc
 exact tail_any (typeIs_str s z t) slot_str_getitem.lookup (getItem_str (c:=c) (by
  have e1:decide (i < -(2 ^ 63:Int))=false:=decide_eq_false (by omega)
  have e2:decide (i≥2 ^ 63)=false:=decide_eq_false (by omega)
  rw[e1,e2,Bool.or_false]) (by rw[h1];simpa using h2) ⟨.str ⟨#[c]⟩,H,I.tok _,⟨_,rfl⟩,q⟩) hs
noncomputable def IL(K:PySem.W.Frag):R2:=fun x y H Q=>G5 K x y H Q∨GU K x y H Q∨GR x y H Q
theorem zK:CI X (IL X.K):=C7.or (FF.or Fy)
theorem vk(its:List Value)(n j:Nat)(u:Value):Obj.mapSeq (·.setIfInBounds j u) {cls:= .type "list",data:= .seq its.toArray n}={cls:= .type "list",data:= .seq (its.set j u).toArray n}:=by
 simp [Obj.mapSeq]
theorem Inv.lst{pins:List (Addr × Obj)}{σ:St}{H:Hp}{s:Shared}{p:Addr}{xs:List V}(I:Inv X pins σ H s)(h:H p=some (.lst xs)) :
 ∃(its:List Value) (n:Nat),Vals xs its∧s.heap.get? p=some {cls:= .type "list",data:= .seq its.toArray n}∧xs.length≤sizeLine:=by
 obtain⟨z,its,n,r,e⟩:=I.hok p _ h
 exact⟨its,n,r,e,z⟩
theorem Inv.Ek{pins:List (Addr × Obj)}{σ:St}{H:Hp}{s:Shared}{p:Addr}{xs ys:List V}{its its':List Value}{n n':Nat}{f:Obj→Obj}(I:Inv X pins σ H s)(h:H p=some (.lst xs))
 (ho:s.heap.get? p=some {cls:= .type "list",data:= .seq its.toArray n}) (hf:f {cls:= .type "list",data:= .seq its.toArray n}={cls:= .type "list",data:= .seq its'.toArray n'}) (r:Vals ys its') (hz:ys.length≤sizeLine) (t:Nat) :
 Inv X pins σ (upd H p (.lst ys)) {s with heap:=s.heap.update p f,toks:=t}:=by
 have e:(s.heap.update p f).get? p=some {cls:= .type "list",data:= .seq its'.toArray n'}:=by
  rw[Heap.get?_update_self f ho (by rw[hf] <;> rfl),hf]
 refine I.write (x:=p) (e:=p) (by rw[h];trivial) (.inl rfl) (fun b u hb q=>(Heap.get?_update_other _ _ (Ne.symm hb)).trans q) ⟨_,e⟩ ?_
 exact⟨hz,its',n',r,e⟩
noncomputable def D5:V→V→V→Hp→(Hp→Prop)→Prop:=fun o i v H Q=>∃p xs k j,o= .ref p∧i= .int k∧H p=some (.lst xs)∧pF xs.length k=some j∧Q (upd H p (.lst (xs.set j v)))
theorem set_list:Hs X D5:=by
 intro pins s σ H o i v ov iv u Q I ro ri rv h
 obtain⟨p,xs,k,j,rfl,rfl,hp,hj,q⟩:=h
 cases ro
 obtain⟨t,rfl⟩:=ri
 obtain⟨its,n,r,ho,hz⟩:=I.lst hp
 obtain⟨h1,h2,h3,h4⟩:=rF hj
 have hl:=r.length
 have hn:=nc
 have I':Inv X pins σ (upd H p (.lst (xs.set j v))) {s with heap:=s.heap.update p (Obj.mapSeq (·.setIfInBounds j u))}:=
  I.Ek hp ho (vk its n j u) (r.set rv j) (by rw[List.length_set];exact hz) s.toks
 by_cases h0:0≤k
 ·have hk:k.toNat=j:=by
   rw[seqIndex_of h0 h4] at h1
   exact Option.some.inj h1
  exact PySem.W.ki_setAt ho h0 (by omega) (by rw[List.size_toArray,←hl];exact h4) (by rw[hk];exact⟨_,I',q⟩)
 ·have hk:(k+(its.toArray.size:Int)).toNat=j:=by
   rw[seqIndex_neg (by omega) h3] at h1
   rw[List.size_toArray,←hl]
   exact Option.some.inj h1
  exact PySem.W.ki_setBack ho (by omega) (by rw[List.size_toArray,←hl];exact h3) (by omega) (by rw[hk];exact⟨_,I',q⟩)
theorem sv(lo hi:Option Int)(n:Nat):(sliceBounds lo hi none n).1=((HT.fP n 0 lo:Nat):Int)∧(sliceBounds lo hi none n).2.1=((HT.fP n n hi:Nat):Int)∧(sliceBounds lo hi none n).2.2=1:=by
 refine⟨?_,?_,rfl⟩
 ·cases lo with
  | none=>simp [sliceBounds,HT.fP]
  | some i=>
    simp only[sliceBounds,HT.fP,Option.getD_none,show(1:Int) > 0 by decide,if_true]
    by_cases h:i < 0
    ·simp only[h,if_true] <;> omega
    ·simp only[h,if_false] <;> omega
 ·cases hi with
  | none=>simp [sliceBounds,HT.fP]
  | some i=>
    simp only[sliceBounds,HT.fP,Option.getD_none,show(1:Int) > 0 by decide,if_true]
    by_cases h:i < 0
    ·simp only[h,if_true] <;> omega
    ·simp only[h,if_false] <;> omega
theorem qt(its:List Value)(lo hi:Option Int):slicePick its.toArray lo hi none=((its.drop (HT.fP its.length 0 lo)).take (HT.fP its.length its.length hi - HT.fP its.length 0 lo)).toArray:=by
 obtain⟨h1,h2,h3⟩:=sv lo hi its.toArray.size
 unfold slicePick
 rw[h1,h2,h3]
 simp only[sliceRange_one,pick_run,List.size_toArray] <;> rfl
noncomputable def IM(K:PySem.W.Frag):V→Option Int→Option Int→Hp→VK→Prop:=fun x lo hi H Q=>∃a xs,x= .ref a∧kZ K H a xs∧∀p,H p=none→Q (.ref p) (upd H p (.lst (tM xs lo hi)))
theorem xI:DZ X (IM X.K):=by
 intro pins s σ H x v vl vu lo hi sl Q I rx hs pl pu h
 obtain⟨a,xs,rfl,hx,q⟩:=h
 cases rx
 obtain⟨its,r,ht,hz⟩:=I.list hx
 have hlen:=r.length
 refine⟨"list",_,slot_list_getitem.lookup,ht.isList.typeIs,?_⟩
 refine wpAny_getItem_list_slice ht.isList hs pl pu .none (by simp) ?_ (by rw[List.size_toArray] <;> omega)
 rw[qt,←hlen]
 refine⟨.ref s.heap.objs.size,_,I.laid (t':=s.toks) (o:= .lst (tM xs lo hi)) (fun b ob q=>Heap.get?_push_of_some _ q) (Nat.le_refl _) ?_,rfl,q _ (I.hok.fresh (Nat.le_refl _))⟩
 exact⟨Nat.le_trans (nW xs lo hi) hz,_,0,(r.drop (HT.fP xs.length 0 lo)).take (HT.fP xs.length xs.length hi - HT.fP xs.length 0 lo),Heap.get?_push_size _ rfl⟩
noncomputable def jP:V→Bool
 | .cK=>true
 | .bl _=>true
 | .int _=>true
 | .str _=>true
 | _=>false
noncomputable def DL:V→V→Bool
 | .cK, .cK=>true
 | .bl a, .bl b=>a==b
 | .bl a, .int b=>(if a then 1 else 0)==b
 | .int a, .bl b=>a==(if b then 1 else 0)
 | .int a, .int b=>a==b
 | .str a, .str b=>a==b
 | _,_=>false
theorem Fp{A:Around}{s:Shared}{y x:V}{u v:Value}(ry:RelV y u)(rx:RelV x v)(fy:jP y=true)(fx:jP x=true):SeqAt.EqAt A s u v (DL y x):=by
 cases y with
 | cK=>
   cases ry
   cases x with
   | cK=>cases rx;exact SeqAt.EqAt.same _
   | bl b=>cases rx;exact SeqAt.EqAt.none_bool b
   | int b=>obtain⟨t,rfl⟩:=rx;exact SeqAt.EqAt.none_int b t
   | str b=>obtain⟨t,rfl⟩:=rx;exact SeqAt.EqAt.none_str b t
   | _=>exact absurd (show false=true from fx) Bool.false_ne_true
 | bl a=>
   cases ry
   cases x with
   | cK=>cases rx;exact SeqAt.EqAt.bool_none a
   | bl b=>cases rx;exact SeqAt.EqAt.bool_bool a b
   | int b=>obtain⟨t,rfl⟩:=rx;exact SeqAt.EqAt.bool_int a b t
   | str b=>obtain⟨t,rfl⟩:=rx;exact SeqAt.EqAt.bool_str a b t
   | _=>exact absurd (show false=true from fx) Bool.false_ne_true
 | int a=>
   obtain⟨t',rfl⟩:=ry
   cases x with
   | cK=>cases rx;exact SeqAt.EqAt.int_none a t'
   | bl b=>cases rx;exact SeqAt.EqAt.int_bool a t' b
   | int b=>obtain⟨t,rfl⟩:=rx;exact SeqAt.EqAt.int_int a t' b t
   | str b=>obtain⟨t,rfl⟩:=rx;exact SeqAt.EqAt.int_str a t' b t
   | _=>exact absurd (show false=true from fx) Bool.false_ne_true
 | str a=>
   obtain⟨t',rfl⟩:=ry
   cases x with
   | cK=>cases rx;exact SeqAt.EqAt.str_none a t'
   | bl b=>cases rx;exact SeqAt.EqAt.str_bool a t' b
   | int b=>obtain⟨t,rfl⟩:=rx;exact SeqAt.EqAt.str_int a t' b t
   | str b=>obtain⟨t,rfl⟩:=rx;exact SeqAt.EqAt.str_str a t' b t
   | _=>exact absurd (show false=true from fx) Bool.false_ne_true
 | _=>exact absurd (show false=true from fy) Bool.false_ne_true
noncomputable def vt(x:V)(u:Value):Bool:=match u with
 | .none=>DL .cK x
 | .bool b=>DL (.bl b) x
 | .int i _=>DL (.int i) x
 | .str z _=>DL (.str z) x
 | _=>false
theorem AZ{x y:V}{u:Value}(r:RelV y u)(f:jP y=true):vt x u=DL y x:=by
 cases y with
 | cK=>cases r;rfl
 | bl b=>cases r;rfl
 | int i=>obtain⟨t,rfl⟩:=r;rfl
 | str z=>obtain⟨t,rfl⟩:=r;rfl
 | _=>exact absurd (show false=true from f) Bool.false_ne_true
theorem mh{x:V}:∀{xs:List V} {us:List Value},Vals xs us→xs.all jP=true→us.any (vt x)=xs.any fun y=>DL y x
 | _,_, .nil,_=>rfl
 | y ::xs,u ::us, .cons r t,f=>by
   rw[List.all_cons,Bool.and_eq_true] at f
   rw[List.any_cons,List.any_cons,AZ r f.1,mh t f.2]
theorem j7{A:Around}{s:Shared}{x:V}{v:Value}(rx:RelV x v)(fx:jP x=true):∀{xs:List V} {us:List Value},Vals xs us→xs.all jP=true→∀u∈us,SeqAt.EqAt A s u v (vt x u)
 | _,_, .nil,_=>fun u hu=>by cases hu
 | y ::xs,u ::us, .cons r t,f=>fun u' hu=>by
   rw[List.all_cons,Bool.and_eq_true] at f
   rcases List.mem_cons.mp hu with rfl | hu
   ·rw[AZ r f.1];exact Fp r rx f.1 fx
   ·exact j7 rx fx t f.2 u' hu
noncomputable def DM(x:V)(xs:List V):Bool:=xs.any fun y=>DL y x
noncomputable def IG(K:PySem.W.Frag)(neg:Bool):R2:=fun x y H Q=>∃p xs,y= .ref p∧(kZ K H p xs∨nV K H p xs)∧jP x=true∧xs.all jP=true∧Q (.bl (if neg then !DM x xs else DM x xs)) H
theorem yp:jT X (compareOp .In) (IG X.K false):=by
 intro pins s σ H x y v u Q I rx ry h
 obtain⟨p,xs,rfl,hq,fx,fs,q⟩:=h
 cases ry
 rcases hq with hq | hq
 ·obtain⟨its,r,pl,hz⟩:=I.list hq
  refine SeqAt.in_listAt (vt x) pl.isList (fun w hw=>j7 rx fx r fs w (by simpa using hw)) ⟨.bl _,H,I,rfl,?_⟩
  rw[show its.toArray.any (vt x)=its.any (vt x) by simp,mh r fs]
  exact q
 ·obtain⟨its,r,pl,hz⟩:=I.tuple hq
  refine SeqAt.in_tupleAt (vt x) pl (fun w hw=>j7 rx fx r fs w (by simpa using hw)) ⟨.bl _,H,I,rfl,?_⟩
  rw[show its.toArray.any (vt x)=its.any (vt x) by simp,mh r fs]
  exact q
theorem sj:jT X (compareOp .NotIn) (IG X.K true):=by
 intro pins s σ H x y v u Q I rx ry h
 obtain⟨p,xs,rfl,hq,fx,fs,q⟩:=h
 cases ry
 rcases hq with hq | hq
 ·obtain⟨its,r,pl,hz⟩:=I.list hq
  refine SeqAt.notIn_listAt (vt x) pl.isList (fun w hw=>j7 rx fx r fs w (by simpa using hw)) ⟨.bl _,H,I,rfl,?_⟩
  rw[show its.toArray.any (vt x)=its.any (vt x) by simp,mh r fs]
  exact q
 ·obtain⟨its,r,pl,hz⟩:=I.tuple hq
  refine SeqAt.notIn_tupleAt (vt x) pl (fun w hw=>j7 rx fx r fs w (by simpa using hw)) ⟨.bl _,H,I,rfl,?_⟩
  rw[show its.toArray.any (vt x)=its.any (vt x) by simp,mh r fs]
  exact q
theorem r9:nQ X (.type "list") (fun xs H Q=>∃p ys,xs=[.ref p]∧(kZ X.K H p ys∨nV X.K H p ys)∧∀l,H l=none→Q (.ref l) (upd H l (.lst ys))):=by
 intro pins s σ H xs us Q I r h
 obtain⟨p,ys,rfl,hq,q⟩:=h
 obtain⟨u,rfl,rx⟩:=vals1 r
 cases rx
 have fin:∀(its:List Value),Vals ys its→ys.length≤sizeLine→∀(h':Heap) (c':Nat),(∀b o',s.heap.get? b=some o'→h'.get? b=some o')→
  h'.get? s.heap.objs.size=some {cls:= .type "list",dict:=none,data:= .seq its.toArray c',slots:=#[]}→EP X pins σ Q (.ref s.heap.objs.size) {s with heap:=h'}:=fun its r' hz h' c' kp e=>
  ⟨.ref s.heap.objs.size,_,I.laid (t':=s.toks) kp (Nat.le_refl _) (show d5 X.prog X.w _ h' _ (.lst ys) from⟨hz,its,c',r',e⟩),rfl,q _ (I.hok.fresh (Nat.le_refl _))⟩
 rcases hq with hq | hq
 ·obtain⟨its,r',pl,hz⟩:=I.list hq
  have hlen:=r'.length
  obtain⟨o,ho,hc,n,hd⟩:=pl.isList
  exact call_list_seq p (.inl rfl) ho hc hd (fun h' c' kp e=>fin its r' hz h' c' kp e) (by simp only[List.size_toArray] <;> omega)
 ·obtain⟨its,r',pl,hz⟩:=I.tuple hq
  have hlen:=r'.length
  obtain⟨o,ho,hc,n,hd⟩:=pl
  exact call_list_seq p (.inr rfl) ho hc hd (fun h' c' kp e=>fin its r' hz h' c' kp e) (by simp only[List.size_toArray] <;> omega)
theorem qg:nQ X (.type "tuple") (fun xs H Q=>∃p ys,xs=[.ref p]∧((kZ X.K H p ys∧∀l,H l=none→Q (.ref l) (upd H l (.tup ys)))∨(nV X.K H p ys∧Q (.ref p) H))):=by
 intro pins s σ H xs us Q I r h
 obtain⟨p,ys,rfl,h⟩:=h
 obtain⟨u,rfl,rx⟩:=vals1 r
 cases rx
 rcases h with⟨hq,q⟩ | ⟨hq,q⟩
 ·obtain⟨its,r',pl,hz⟩:=I.list hq
  have hlen:=r'.length
  refine call_tuple_list pl.isList (fun h' kp=>?_) (by simp only[List.size_toArray] <;> omega)
  have I1:Inv X pins σ H {s with heap:=h'}:=I.kept (t':=s.toks) kp
  have I2:Inv X pins σ (upd H h'.objs.size (.tup ys)) {s with heap:=h'.push {cls:= .type "tuple",data:= .seq its.toArray}}:=
   I1.laid (t':=s.toks) (fun b o e=>Heap.get?_push_of_some _ e) (Nat.le_refl _) (show d5 X.prog X.w _ _ _ (.tup ys) from⟨hz,its,r',IsTup.new _ _⟩)
  exact⟨.ref h'.objs.size,_,I2,rfl,q _ (I1.hok.fresh (Nat.le_refl _))⟩
 ·obtain⟨its,r',pl,hz⟩:=I.tuple hq
  exact call_tuple_same pl ⟨.ref p,H,I,rfl,q⟩
noncomputable def Ic(K:PySem.W.Frag)(T:String)(x:V)(H:Hp):Prop:=match x with
 | .str _=>T="str"
 | .int _=>T="int"
 | .ref p=>(T="list"∧∃xs,kZ K H p xs)∨(T="tuple"∧∃o,K.lookup p=some o∧o.cls= .type "tuple"∧o.dict=none)∨
    (T="dict"∧((∃kvs,H p=some (.dK kvs))∨∃kvs,H p=some (.dT kvs)))∨(T="set"∧∃S n,H p=some (.set S n))
 | _=>False
theorem Et{pins:List (Addr × Obj)}{σ:St}{H:Hp}{s:Shared}{T:String}{x:V}{v:Value}(I:Inv X pins σ H s)(r:RelV x v)(ty:Ic X.K T x H) :
 s.TypeIs v T∧∀a,v= .ref a→∃ob,s.heap.get? a=some ob∧ob.dict=none:=by
 cases x with
 | str z=>
   obtain⟨t,rfl⟩:=r
   cases(show T="str" from ty)
   exact⟨typeIs_str s z t,fun _ e=>nomatch e⟩
 | int i=>
   obtain⟨t,rfl⟩:=r
   cases(show T="int" from ty)
   exact⟨typeIs_int s i t,fun _ e=>nomatch e⟩
 | ref p=>
   cases r
   rcases ty with⟨rfl,xs,hq⟩ | ⟨rfl,o,hk,hc,hd⟩ | ⟨rfl,hk⟩ | ⟨rfl,S,n,hk⟩
   ·obtain⟨its,_,pl,_⟩:=I.list hq
    refine⟨pl.isList.typeIs,fun a e=>?_⟩
    cases e
    obtain⟨o,n,e,c,hd,_⟩:=pl
    exact⟨o,e,hd⟩
   ·refine⟨⟨o,I.xt p o hk,hc⟩,fun a e=>?_⟩
    cases e
    exact⟨o,I.xt _ o hk,hd⟩
   ·have z:∃o,s.heap.get? p=some o∧o.ExactDict:=by
     rcases hk with⟨kvs,hk⟩ | ⟨kvs,hk⟩
     ·obtain⟨_,_,_,_,o,_,_,e,ex,_⟩:=I.hok p _ hk
      exact⟨o,e,ex⟩
     ·obtain⟨_,_,_,_,o,_,_,e,ex,_⟩:=I.hok p _ hk
      exact⟨o,e,ex⟩
    obtain⟨o,e,ex⟩:=z
    refine⟨⟨o,e,ex.1⟩,fun a e2=>?_⟩
    cases e2
    exact⟨o,e,ex.2.1⟩
   ·obtain⟨o,_,_,_,e,ex,_⟩:=I.hok p _ hk
    refine⟨⟨o,e,ex.1⟩,fun a e2=>?_⟩
    cases e2
    exact⟨o,e,ex.2.1⟩
 | _=>exact False.elim ty
noncomputable def KO(K:PySem.W.Frag)(T:String)(r:V→List V→Hp→VK→Prop)(to:TE):TE:=fun σ H Q=>to σ H fun x H1=>Ic K T x H1∧r x [] H1 Q
noncomputable def J9(K:PySem.W.Frag)(T:String)(r:V→List V→Hp→VK→Prop)(to:TE)(t:TA):TE:=fun σ H Q=>to σ H fun x H1=>Ic K T x H1∧t σ H1 fun xs H2=>r x xs H2 Q
variable {o e:Expr} {es:List Expr} {to:TE} {t:TA} {name:Str} {apos cpos:Pos} {T id:String} {r:V→List V→Hp→VK→Prop}
theorem xE(pa:PlainAttrs T)(slot:Slot T name id)(hty:typeOf (.builtin id)=pure (.type "method_descriptor"))(hm:KZ X id r)(ho:PE X o to)(ha:PA X (e ::es) t)
 (hbase:attributeBase o name X.env (eval o X.env)=eval o X.env:=by rfl)
 (hfew:((backTo cpos (starEach (e ::es) X.env)).all (fun x=>!x.1) && (backToKw cpos (keywordEach [] X.env)).all (fun x=>x.1.isSome)
   && decide ((e ::es).length+([]:List Keyword).length+(if([]:List Keyword).isEmpty then 0 else 1) < 30))=true:=by rfl)
 (hline:(apos.endLine==cpos.line)=true:=by rfl) (hs:starEach (e ::es) X.env=(false,eval e X.env) ::starEach es X.env:=by rfl) (hplain:(backTo cpos (starEach es X.env)).any (·.1)=false:=by rfl) :
 PE X (.Call (.Attribute o name apos) (e ::es) [] cpos) (J9 X.K T r to t):=by
 intro pins s σ H Q I h
 refine wpAny_Call_method_late hbase hfew hline rfl (dR (ho pins s σ H _ I h) fun v s1 ⟨x,H1,I1,r1,ty,q1⟩=>?_)
 obtain⟨h1,h2⟩:=Et I1 r1 ty
 refine⟨T,id,pa,slot,hty,h1,h2,?_⟩
 have hA:=ha cpos pins s1 σ H1 _ I1 q1
 rw[hs] at hA ⊢
 refine Calls.callWith_builtin (by show(false || (backTo cpos (starEach es X.env)).any (·.1))=false;rw [hplain] <;> rfl) (Calls.evalArgs_plain ?_)
 exact dR hA fun us s2 ⟨vs,H2,I2,r2,q2⟩=>hm pins s2 σ H2 x vs v us Q I2 r1 r2 q2
end
end L2
namespace L2
open PySem PySem.Spec PyProof.Rows
noncomputable def Iv(X:Cx)(id:String)(r:V→List V→Hp→VK→Prop):Prop:=
 ∀(pins:List (Addr × Obj)) (s:Shared) (σ:St) (H:Hp) (x:V) (xs:List V) (v:Value) (us:List Value) (Q:VK),Inv X pins σ H s→RelV x v→Vals xs us→r x xs H Q→
  wpAny (model X.prog X.w) X.A (call (.builtin id) (v ::us)) (EP X pins σ Q) X.xe s
theorem Vals.one:∀{x:V} {us:List Value},Vals [x] us→∃u,us=[u]∧RelV x u
 | _,_, .cons r .nil=>⟨_,rfl,r⟩
theorem Vals.eraseIdx:∀{xs:List V} {us:List Value} (i:Nat),Vals xs us→Vals (xs.eraseIdx i) (us.eraseIdx i)
 | _,_,_, .nil=> .nil
 | _,_,0, .cons _ t=>t
 | _,_,i+1, .cons r t=> .cons r (Vals.eraseIdx i t)
theorem Vals.rep{xs:List V}{us:List Value}(h:Vals xs us):∀k:Nat,Vals (List.replicate k xs).flatten (List.replicate k us).flatten
 | 0=> .nil
 | k+1=>by
   rw[List.replicate_succ,List.replicate_succ,List.flatten_cons,List.flatten_cons]
   exact Vals.append h (Vals.rep h k)
theorem qC{α:Type}:∀(l:List α) (i:Nat),(l.eraseIdx i).length≤l.length
 | [],_=>Nat.le_refl _
 | _ ::_,0=>Nat.le_succ _
 | _ ::r,i+1=>Nat.succ_le_succ (qC r i)
theorem foldl_rep(its:List Value):∀(k:Nat) (acc:List Value),
 List.foldl (fun x1 x2=>x1++x2) acc.toArray (List.replicate k its.toArray)=(acc++(List.replicate k its).flatten).toArray
 | 0,acc=>by simp
 | k+1,acc=>by
   have e:acc.toArray++its.toArray=(acc++its).toArray:=by simp
   have e2:(acc++its)++(List.replicate k its).flatten=acc++(List.replicate (k+1) its).flatten:=by
    rw[List.replicate_succ,List.flatten_cons,List.append_assoc]
   rw[←e2,←foldl_rep its k (acc++its),←e,List.replicate_succ,List.foldl_cons]
section
variable {X:Cx} {pins:List (Addr × Obj)} {σ:St} {H:Hp} {s:Shared} {l b:Addr} {xs ys zs:List V}
theorem Inv.EL{its its':List Value}{n:Nat}{f:Array Value→Array Value}{t':Nat}(I:Inv X pins σ H s)(hH:H l=some (.lst xs))
 (e:s.heap.get? l=some {cls:= .type "list",data:= .seq its.toArray n}) (hf:f its.toArray=its'.toArray) (hv:Vals ys its') (hz:ys.length≤sizeLine) :
 Inv X pins σ (upd H l (.lst ys)) {s with heap:=s.heap.update l (Obj.mapSeq f),toks:=t'}:=by
 have q:=PySem.IsL.update e f
 rw[hf] at q
 refine I.write (x:=l) (e:=l) (by rw[hH];exact trivial) (.inl rfl) (fun b' u hb hu=>(Heap.get?_update_other s.heap (Obj.mapSeq f) (Ne.symm hb)).trans hu) ⟨_,q⟩ ?_
 exact⟨hz,its',_,hv,q⟩
theorem Inv.Cm{its:List Value}{t':Nat}(I:Inv X pins σ H s)(hv:Vals ys its)(hz:ys.length≤sizeLine) :
 Inv X pins σ (upd H s.heap.objs.size (.lst ys)) {s with heap:=s.heap.push {cls:= .type "list",data:= .seq its.toArray},toks:=t'}:=
 I.laid (fun _ _ q=>Heap.get?_push_of_some _ q) (Nat.le_refl _) ⟨hz,its,0,hv,Heap.get?_push_size _ rfl⟩
theorem Inv.fresh(I:Inv X pins σ H s):H s.heap.objs.size=none:=I.hok.fresh (Nat.le_refl _)
theorem Inv.Dl(I:Inv X pins σ H s)(hH:H l=some (.lst xs)):xs.length≤sizeLine∧∃(its:List Value) (n:Nat),Vals xs its∧xs.length=its.length∧s.heap.get? l=some {cls:= .type "list",data:= .seq its.toArray n}:=by
 obtain⟨z,its,n,r,e⟩:=I.hok l _ hH
 exact⟨z,its,n,r,r.length,e⟩
theorem tW{n:Nat}(h:n≤sizeLine):Builtin.List.listTooLong n=false:=by
 unfold Builtin.List.listTooLong
 exact decide_eq_false (by omega)
end
section
variable {X:Cx}
noncomputable def C2:V→List V→Hp→VK→Prop:=fun x vs H Q=>∃l xs y,x= .ref l∧vs=[y]∧H l=some (.lst xs)∧xs.length < sizeLine∧Q .cK (upd H l (.lst (xs++[y])))
theorem mX:Iv X "list.append" C2:=by
 intro pins s σ H x vs v us Q I rx rv h
 obtain⟨l,xs,y,rfl,rfl,hH,hz,q⟩:=h
 cases rx
 obtain⟨u,rfl,ru⟩:=rv.one
 obtain⟨z,its,n,r,hl,e⟩:=I.Dl hH
 refine call_meets F.slot_list_append ⟨_,e,rfl⟩ F.entry_list_append (F.args_list_append_2 _ _) (PySem.list_append l its.toArray n u (by rw[List.size_toArray];omega)) ⟨e,?_⟩
 refine⟨.cK,_,I.EL (its':=its++[u]) hH e (by simp) (r.append (.cons ru .nil)) ?_,rfl,q⟩
 rw[List.length_append,List.length_singleton]
 omega
noncomputable def HQ:V→List V→Hp→VK→Prop:=fun x vs H Q=>∃l b xs zs,x= .ref l∧vs=[.ref b]∧H l=some (.lst xs)∧H b=some (.lst zs)∧xs.length+zs.length≤sizeLine∧Q .cK (upd H l (.lst (xs++zs)))
noncomputable def Ke:V→List V→Hp→VK→Prop:=fun x vs H Q=>∃l xs y,x= .ref l∧vs=[]∧H l=some (.lst xs)∧xs[xs.length - 1]? =some y∧Q y (upd H l (.lst xs.dropLast))
noncomputable def F6:V→List V→Hp→VK→Prop:=fun x vs H Q=>∃l xs i k y,x= .ref l∧vs=[.int i]∧H l=some (.lst xs)∧ -(2 ^ 63)≤i∧i < 2 ^ 63∧seqIndex? i xs.length=some k∧xs[k]? =some y∧Q y (upd H l (.lst (xs.eraseIdx k)))
theorem zw:Iv X "list.pop" F6:=by
 intro pins s σ H x vs v us Q I rx rv h
 obtain⟨l,xs,i,k,y,rfl,rfl,hH,h1,h2,hk,hy,q⟩:=h
 cases rx
 obtain⟨u,rfl,ru⟩:=rv.one
 obtain⟨t,rfl⟩:=ru
 obtain⟨z,its,n,r,hl,e⟩:=I.Dl hH
 obtain⟨w,hw,rw'⟩:=r.get hy
 refine call_meets F.slot_list_pop ⟨_,e,rfl⟩ F.entry_list_pop (F.args_list_pop_2 _ _)
  (MeetsSeq.list_pop_at l its.toArray n i t k w (fitsIndex_both h1 h2) (by rw[List.size_toArray,←hl];exact hk) (by rw[←Array.getElem?_toList];exact hw) (by rw[List.size_toArray];omega)) ⟨e,?_⟩
 refine⟨y,_,I.EL (its':=its.eraseIdx k) hH e ?_ (r.eraseIdx k) ?_,rw',q⟩
 ·show its.toArray.eraseIdxIfInBounds k=(its.eraseIdx k).toArray
  rw[List.eraseIdxIfInBounds_toArray]
 ·have:=qC xs k
  omega
noncomputable def Hu:V→List V→Hp→VK→Prop:=fun x vs H Q=>∃l xs,x= .ref l∧vs=[]∧H l=some (.lst xs)∧Q .cK (upd H l (.lst xs.reverse))
noncomputable def Iw:V→List V→Hp→VK→Prop:=fun x vs H Q=>∃l xs,x= .ref l∧vs=[]∧H l=some (.lst xs)∧Q .cK (upd H l (.lst []))
noncomputable def Ku:R2:=fun x y H Q=>∃l b xs zs,x= .ref l∧y= .ref b∧H l=some (.lst xs)∧H b=some (.lst zs)∧xs.length+zs.length≤sizeLine∧∀p,H p=none→Q (.ref p) (upd H p (.lst (xs++zs)))
noncomputable def Iu:R2:=fun x y H Q=>∃l k xs,x= .ref l∧y= .int k∧H l=some (.lst xs)∧ -(2 ^ 63)≤k∧k < 2 ^ 63∧xs.length*k.toNat≤sizeLine∧
 ∀p,H p=none→Q (.ref p) (upd H p (.lst (List.replicate k.toNat xs).flatten))
theorem len_rep{α:Type}(xs:List α)(k:Nat):(List.replicate k xs).flatten.length=k*xs.length:=by
 induction k with
 | zero=>simp
 | succ k ih=>rw [List.replicate_succ,List.flatten_cons,List.length_append,ih,Nat.succ_mul,Nat.add_comm]
theorem FP:jT X (binaryOp .Mult) Iu:=by
 intro pins s σ H x y v u Q I rx ry h
 obtain⟨l,k,xs,rfl,rfl,hH,h1,h2,hz,q⟩:=h
 cases rx
 obtain⟨t,rfl⟩:=ry
 obtain⟨z,its,n,r,hl,e⟩:=I.Dl hH
 have hlen:its.toArray.size*k.toNat≤sizeLine:=by rw[List.size_toArray,←hl];exact hz
 have hcap:¬its.toArray.size*k.toNat > (2 ^ 63 - 1) / 8:=by
  have:(sizeLine:Nat)≤(2 ^ 63 - 1) / 8:=by decide
  omega
 have hfit:¬(!Builtin.List.listFitsIndex k)=true:=by
  rw[fitsIndex_both h1 h2]
  exact Bool.false_ne_true
 have hlong:¬Builtin.List.listTooLong (its.toArray.size*k.toNat)=true:=by
  rw[tW hlen]
  exact Bool.false_ne_true
 have hnew:List.foldl (fun x1 x2=>x1++x2) #[] (List.replicate (if its.toArray.isEmpty=true then 0 else k.toNat) its.toArray)=(List.replicate k.toNat its).flatten.toArray:=by
  have f0:∀m:Nat,List.foldl (fun x1 x2=>x1++x2) #[] (List.replicate m its.toArray)=(List.replicate m its).flatten.toArray:=fun m=>by
   have:=foldl_rep its m []
   rw[List.nil_append] at this
   exact this
  rw[f0]
  cases its with
  | nil=>simp
  | cons a r'=>rw [if_neg (by simp)]
 refine wpAny_binaryOp_repeat_ref (T:="list") (U:="int") (by decide) ⟨_,e,rfl⟩ (fun s'=>typeIs_int s' k t) noFill_list_mul F.fills_int_mul F.slot_int_rmul repeat_list F.slot_int_index.lookup
  (call_meets F.slot_int_rmul (typeIs_int s k t) F.entry_int_rmul (F.args_int_rmul_2 _ _) (int___rmul___int_list k t l its.toArray n)
    ⟨e,rfl,⟨_,e,rfl⟩,call_meets F.slot_list_mul ⟨_,e,rfl⟩ F.entry_list_mul (F.args_list_mul_2 _ _) (AutoListH.list___mul___list_int_3 l its.toArray n k t hfit hcap hlong) ⟨e,?_⟩⟩)
 rw[hnew]
 exact⟨.ref _,_,I.Cm (t':=s.toks) (r.rep k.toNat) (by rw[len_rep,Nat.mul_comm];exact hz),rfl,q _ I.fresh⟩
end
section
variable {prog:Program} {w:World} {A:Around} {E:Value→Shared→Prop} {s:Shared}
set_option maxRecDepth 100000 in
end
section
variable {X:Cx}
end
end L2
namespace Att
open PySem PySem.W PySem.Calls PyProof.Rows
theorem n0{P:Params}{h:Heap}:∀(ns:List Int) (vs:List Value),WellAll P h vs (ns.map WData.int)→IntsAre vs ns:=by
 intro ns
 induction ns with
 | nil=>
   intro vs w
   rw[List.map_nil] at w
   cases w
   exact .nil
 | cons n ns ih=>
   intro vs w
   rw[List.map_cons] at w
   cases w with
   | cons a b=>
     cases a
     exact .cons _ _ (ih _ b)
theorem yC{l:OpenLaw}{n:Nat}(hn:l.most=some n){P:Params}{h:Heap}{args:List WData}{vals:List Value}
 (hpre:l.row.toRowW.claim.pre args=true) (hwl:WellAll P h vals args) :
 ∃a vs ns,vals=[Value.ref a]∧args=[WData.list (ns.map WData.int)]∧h.get? a=some {cls:= .type "list",data:= .seq vs.toArray}∧IntsAre vs ns∧ns.length≤n:=by
 have hsh:WShape.hasAll [] args [.list .int]=true:=(pre_splitW hpre).1
 have hc:l.pre.holds [] {args:=args}=true:=(pre_splitW hpre).2
 obtain⟨d,r,rfl,h1,h2⟩:=hasAllW_cons hsh
 obtain rfl:=hasAllW_nil h2
 obtain⟨xs,rfl,h3⟩:=hasW_list h1
 obtain⟨ns,rfl⟩:=items_int h3
 have hlen:ns.length≤n:=by
  unfold OpenLaw.pre at hc
  have h4:(WTm.not (.lt (.lit (.int (n:Int))) (.len (.arg 0)))).holds [] {args:=[.list (ns.map .int)]}=true:=by
   have h4:=(holds_andW hc).1
   rw[hn] at h4
   exact h4
  have h5:=condW_of h4 (w_not (w_lt w_lit (w_len_list (w_arg rfl))))
  rw[List.length_map] at h5
  refine Nat.le_of_not_lt fun q=>?_
  have q':(n:Int) < ((ns.length:Nat):Int):=by omega
  first
   | (rw [decide_eq_true q'] at h5;exact absurd h5 (by decide))
   | (simp at h5;omega)
 cases hwl with
 | cons w1 w2=>
   cases w2
   cases w1 with
   | list ho hall=>exact⟨_,_,ns,rfl,rfl,ho,n0 ns _ hall,hlen⟩
theorem yJ(l:OpenLaw)(args:List WData):l.row.toRowW.claim.post args (.bool true) args=true:=
 postW_of (r:=l.row.toRowW) (X:=(true==true))
  (show WShape.has [] (.bool true) .bool=true by first | rfl | decide | simp [WShape.has,WShape.arms,WShape.armsAll])
  (show(WTm.eq .res (.lit (.bool true))).value [] {args:=args,res:=some (.bool true),after:=args}=some (.bool (true==true)) from w_eq_bool (w_res rfl) w_lit) rfl
theorem t_{l:OpenLaw}{n:Nat}{q:Program}{loose:List Str}{XP:(Str→Option Value)→Heap→Prop}{YP:World→Heap→Prop}{d:DefRec}
 (hn:l.most=some n) (hdf:d.params.defaults=[])
 (call:∀(w:World) (s₀ s₁:Shared) (mg mb:Str→Option Value) (fa:Addr) (o:Obj) (pm cd doc:Value) (a:Addr) (vs:List Value) (ns:List Int),
   Ground q loose [] XP w s₀ mg mb s₁.heap→YP w s₁.heap→
   s₁.heap.get? fa=some o→o.data= .func (docDef d.name d.params d.body d.scope pm cd doc)→s₁.heap.CodeRec cd d.name→mg d.name=some (.ref fa)→
   s₁.heap.get? a=some {cls:= .type "list",data:= .seq vs.toArray}→IntsAre vs ns→ns.length≤n→s₁.gens=#[]→
   codeAny (model l.prog w) callerA (.call (.ref fa) ⟨[.ref a],[]⟩) (fun r s'=>r= .ok (.ret (.bool true))∧OldK s₁.heap s'.heap∧s'.os=s₁.os∧AllBare s'.gens) s₁) :
 WalkO q loose XP YP l.row.toRowW d [] (fun f vs=>PySem.call f vs):=by
 intro w s₀ s₁ mg mb G Y fa o pm cd doc dV kV ho hd hcd hD hmg hg args vals as hpre hlay hrd hwl hlo
 obtain rfl:dV= .none:=Dflts.none hD hdf
 obtain rfl:kV= .none:=Dflts.noKw hD
 obtain⟨a,vs,ns,rfl,rfl,hobj,hints,hlen⟩:=yC hn hpre hwl
 refine enter_call (codeAny_mono (call w s₀ s₁ mg mb fa o pm cd doc a vs ns G Y ho (fd_plain hd) hcd hmg hobj hints hlen hg) fun r s' hq=>?_)
 obtain⟨rfl,h2,h3,h4⟩:=hq
 exact⟨.inl ⟨.bool true, .bool true,[],rfl,fun _=>rfl, .bool true,yJ l _,fun _=>⟨List.Pairwise.nil,fun _ hm=>(nomatch hm)⟩⟩,h2,h3,h4⟩
section
variable {prog:Program} {w:World} {A:Around} {E:Value→Shared→Prop} {s:Shared} {K:Frag}
noncomputable def IP(h:Heap):Heap:={h with objs:=#[]}
noncomputable def ledger(h:Heap)(L d:Addr):List (Addr × Obj):=(List.range h.objs.size).filterMap fun a=>if a=L∨a=d then none else(h.get? a).map fun o=>(a,o)
end
end Att
namespace L2
open PySem PySem.Spec PyProof.Rows
theorem rm:∀{vs:List Value} {ns:List Int},IntsAre vs ns→Vals (ns.map V.int) vs
 | _,_, .nil=> .nil
 | _,_, .cons n t h=> .cons ⟨t,rfl⟩ (rm h)
noncomputable def Hb(H:Hp):Prop:=∀b,H b=none∨∃o xs,H b=some (.iE o (.lst xs))
end L2
namespace L2
open PySem PySem.Spec PyProof.Rows
noncomputable abbrev fR{K:PySem.W.Frag}{h:Heap}(_:K.In h):PySem.W.Frag:=K
end L2
namespace L2
open PySem PySem.Spec PyProof.Rows
noncomputable def inClass(s:Stmt)(j:Nat):Stmt:=match s with
 | .ClassDef _ _ _ body _ _ _ _ _ _ _=>body.getD j (.Pass ⟨0,0,0,0⟩)
 | _=> .Pass ⟨0,0,0,0⟩
noncomputable def gn(s:Stmt):Arguments:=match s with
 | .FunctionDef _ a _ _ _ _ _ _ _ _=>a
 | _=>{posonlyargs:=[],args:=[],vararg:=none,kwonlyargs:=[],kw_defaults:=[],kwarg:=none,defaults:=[]}
noncomputable def ao(s:Stmt):List Stmt:=match s with
 | .FunctionDef _ _ b _ _ _ _ _ _ _=>b
 | _=>[]
noncomputable def ag(s:Stmt):Scope:=match s with
 | .FunctionDef _ _ _ _ _ _ sc _ _ _=>sc
 | _=>{kind:= .function,names:=[],isGenerator:=false,isCoroutine:=false}
noncomputable abbrev qp:zE:=fun _ _ _ _ _ _=>False
noncomputable abbrev E0:XK:=fun _ _ _=>False
theorem uk{X:Cx}:Passes qp X E0:=fun _ _ _ _ _ _ _ h=>h.elim
structure wR (K:PySem.W.Frag) (x qual:Str) (st:Stmt) (f:Addr) (fd:FuncData):Prop where
 ex:∃(oc:Value) (od:Option Addr) (kV doc pm:Value) (an:Option Addr) (cdv ct:Value) (osl:Array (Option Value)),
  fd=PySem.W.fnOf x qual (gn st) (ao st) (ag st) .none kV doc pm an cdv ct∧K.lookup f=some ⟨oc,od, .func fd,osl⟩∧PySem.W.codeIn K cdv qual=true
 kp:PySem.W.keepIn K (.ref f)=true
section
variable {P:Program} {w:World} {K:PySem.W.Frag} {mg:Str→Option Value} {base:Heap}
theorem wR.ok{x qual:Str}{st:Stmt}{f:Addr}{fd:FuncData}{N ps:List Str}{k:Nat}{sp:Sp}(F:wR K x qual st f fd)(S:ba N ps (ag st))(len:∀vs H Q E,sp vs H Q E→vs.length=ps.length)
 (hbody:∀(cdv:Value) (A:Around) (outer:List Env) (s:Shared) (H:Hp) (vs:List V) (Q:VK) (E:XK),dZ k (A.deeper (envOfC qual (ag st) s.heap.objs.size f cdv))→sp vs H Q E→
   ∃t,sT (qc qp P w K mg base N qual (ag st) f cdv A outer s H E).B9 (ao st) t∧t {nx:=fun _ H'=>Q .cK H',rt:=Q} (start N vs) H):gM P w K mg base qp (k+1) f fd ps sp:=by
 obtain⟨oc,od,kV,doc,pm,an,cdv,ct,osl,rfl,lk,hcd⟩:=F.ex
 refine Hi lk hcd S len fun A outer s H vs Q E hr hsp=>?_
 obtain⟨t,h,q⟩:=hbody cdv A outer s H vs Q E hr hsp
 exact⟨t,h.B9,q⟩
theorem wR.binds{x qual:Str}{st:Stmt}{f:Addr}{fd:FuncData}{ps:List Str}(F:wR K x qual st f fd)
 (h:∀(kV doc pm:Value) (an:Option Addr) (cdv ct:Value) (us:List Value),us.length=ps.length→bindArgs (PySem.W.fnOf x qual (gn st) (ao st) (ag st) .none kV doc pm an cdv ct) ⟨us,[]⟩=pure (ps.zip us)):Binds K fd ps []:=by
 obtain⟨oc,od,kV,doc,pm,an,cdv,ct,osl,rfl,lk,hcd⟩:=F.ex
 exact .all (h kV doc pm an cdv ct)
theorem mR{x qual:Str}{st:Stmt}{f:Addr}{oc:Value}{od an:Option Addr}{osl:Array (Option Value)}{kV doc pm cdv ct:Value}(l:K.lookup f=some ⟨oc,od, .func (PySem.W.fnOf x qual (gn st) (ao st) (ag st) .none kV doc pm an cdv ct),osl⟩)
 (c:PySem.W.codeIn K cdv qual=true) (k:PySem.W.keepIn K (.ref f)=true):wR K x qual st f (PySem.W.fnOf x qual (gn st) (ao st) (ag st) .none kV doc pm an cdv ct):=⟨⟨oc,od,kV,doc,pm,an,cdv,ct,osl,rfl,l,c⟩,k⟩
end
theorem GP{A:Around}{k:Nat}(hr:dZ k A):A.units+1 < cLine:=Nat.lt_of_le_of_lt (Nat.add_le_add_left (by decide:1≤64) _) hr.units
section
variable {X:Cx}
end
theorem z8{A B:Prop}(h:B):if false=true then A else B:=by
 rw[if_neg Bool.false_ne_true]
 exact h
theorem Al{A B:Prop}(h:A):if true=true then A else B:=by
 rw[if_pos rfl]
 exact h
noncomputable def aS(H H':Hp):Prop:=∀b o,H b=some o→H' b=some o
theorem aS.refl(H:Hp):aS H H:=fun _ _ h=>h
theorem aS.trans{H H1 H2:Hp}(a:aS H H1)(b:aS H1 H2):aS H H2:=fun c o h=>b c o (a c o h)
theorem aS.free{H H':Hp}(e:aS H H'){l:Addr}(h:H' l=Option.none):H l=Option.none:=by
 cases q:H l with
 | none=>rfl
 | some o=>
   rw[e l o q] at h
   cases h
section
variable {κ:Type} [DecidableEq κ]
end
end L2
end
section
set_option maxRecDepth 100000
set_option maxHeartbeats 4000000
namespace L2
open PySem PySem.Spec PyProof.Rows
noncomputable def n_(cells:List (Str × Addr)):List (Str × NameKind)→List (Str × Addr)→List (Str × Addr)
 | [],acc=>acc
 | (n,k) ::r,acc=>n_ cells r (if k==NameKind.free then(n,(cells.lookup n).getD 0) ::acc else acc)
theorem jn{env:Env}:∀(names:List (Str × NameKind)) (acc:List (Str × Addr)),(∀y∈names,y.2= .free→∃c,env.cells.lookup y.1=some c)→
 (forIn names acc fun(x:Str × NameKind) (cs:List (Str × Addr))=>(match x with
   | (name,kind)=>if kind== .free then do let a ←cellOf env name;pure (ForInStep.yield ((name,a) ::cs)) else pure (ForInStep.yield cs):Sem (ForInStep (List (Str × Addr)))))=pure (n_ env.cells names acc)
 | [],acc,_=>by simp [n_]
 | (n,k) ::r,acc,h=>by
   rw[List.forIn_cons]
   by_cases hk:k=NameKind.free
   ·subst hk
    obtain⟨c,hc⟩:=h (n, .free) List.mem_cons_self rfl
    have e:cellOf env n=pure c:=by unfold cellOf;rw [hc]
    simp only[beq_self_eq_true,if_true,e,pure_bind,n_,hc,Option.getD_some]
    exact jn r _ fun y hy=>h y (List.mem_cons_of_mem _ hy)
   ·have hb:(k==NameKind.free)=false:=by simpa using hk
    simp only[hb,Bool.false_eq_true,if_false,pure_bind,n_]
    exact jn r _ fun y hy=>h y (List.mem_cons_of_mem _ hy)
theorem jM{env:Env}{scope:Scope}(h:∀y∈scope.names,y.2= .free→∃c,env.cells.lookup y.1=some c):closureFor scope env=pure (n_ env.cells scope.names []):=by
 unfold closureFor
 have:=jn (env:=env) scope.names [] h
 simp only[bind_pure]
 exact this
theorem ko{cells:List (Str × Addr)}:∀(names:List (Str × NameKind)) (acc:List (Str × Addr)) {x:Str} {c:Addr},(n_ cells names acc).lookup x=some c→
 acc.lookup x=some c∨((x,NameKind.free)∈names∧c=(cells.lookup x).getD 0)
 | [],acc,x,c,h=> .inl h
 | (n,k) ::r,acc,x,c,h=>by
   rcases ko r _ h with q | ⟨q1,q2⟩
   ·by_cases hk:k=NameKind.free
    ·subst hk
     simp only[beq_self_eq_true,if_true] at q
     cases hx:x==n with
     | true=>
       have e:x=n:=by simpa using hx
       subst e
       rw[List.lookup_cons,hx] at q
       exact .inr ⟨List.mem_cons_self,(Option.some.inj q).symm⟩
     | false=>
       rw[List.lookup_cons,hx] at q
       exact .inl q
    ·have hb:(k==NameKind.free)=false:=by simpa using hk
     simp only[hb,Bool.false_eq_true,if_false] at q
     exact .inl q
   ·exact .inr ⟨List.mem_cons_of_mem _ q1,q2⟩
theorem t6{cells:List (Str × Addr)}:∀(names:List (Str × NameKind)) (acc:List (Str × Addr)) {x:Str},((x,NameKind.free)∈names∨∃c,acc.lookup x=some c)→∃c,(n_ cells names acc).lookup x=some c
 | [],acc,x,h=>by
   rcases h with h | h
   ·simp at h
   ·exact h
 | (n,k) ::r,acc,x,h=>by
   refine t6 r _ ?_
   rcases h with h | ⟨c,h⟩
   ·rcases List.mem_cons.mp h with e | e
    ·cases e
     exact .inr ⟨(cells.lookup n).getD 0,by simp [List.lookup_cons]⟩
    ·exact .inl e
   ·by_cases hk:k=NameKind.free
    ·subst hk
     simp only[beq_self_eq_true,if_true]
     cases hx:x==n with
     | true=>exact .inr ⟨(cells.lookup n).getD 0,by rw[List.lookup_cons,hx]⟩
     | false=>exact .inr ⟨c,by rw[List.lookup_cons,hx];exact h⟩
    ·have hb:(k==NameKind.free)=false:=by simpa using hk
     simp only[hb,Bool.false_eq_true,if_false]
     exact .inr ⟨c,h⟩
noncomputable def bC(X:Cx)(scope:Scope)(N':List Str)(fp:List Addr)(s:Shared)(H:Hp):Cx where
 prog:=X.prog
 w:=X.w
 K:=X.K
 mg:=X.mg
 base:=X.base
 A:=X.A
 N:=N'
 s₀:=s
 H₀:=H
 env:=compEnvC scope (n_ X.env.cells scope.names []) s.heap.objs.size X.env
 outer:=X.stack
 stack:=X.stack
 ex:=fp
 fn:=fun _=>false
 calm:=X.calm
 pn:=[]
 xe:=fun _ _=>False
structure ck (X:Cx) (scope:Scope) (own:List Str) (kp:List Nat) (kn:List Str):Prop where
 kind:scope.kind= .function
 nocell:∀y∈scope.names,y.2≠ .cell
 nd:∀y∈scope.names,y.2= .local→scope.names.lookup y.1=some .local
 free:∀y∈scope.names,y.2= .free→X.env.kindOf y.1=some .cell∨X.env.kindOf y.1=some .free
 names:kn.length=kp.length
 at_:∀(j i:Nat) (x:Str),kp[j]? =some i→kn[j]? =some x→X.N[i]? =some x
 isfree:∀x∈kn,scope.names.lookup x=some .free
noncomputable def dk(own:List Str)(kp:List Nat)(σ:St):St:=List.replicate own.length none++kp.map fun i=>(σ[i]?).getD none
section
variable {X:Cx} {scope:Scope} {own:List Str} {kp:List Nat} {kn:List Str}
theorem ef{env:Env}:∀{names:List (Str × NameKind)} {x:Str} {k:NameKind},
 (names.map fun(n,k)=>if(k==NameKind.free && env.scope.kind== .function && env.kindOf n==some .cell) then(n,NameKind.cell) else(n,k)).lookup x=some k→
 names.lookup x=some k∨(k= .cell∧names.lookup x=some .free)
 | [],_,_,h=>by simp at h
 | (n,k) ::r,x,k',h=>by
   have ih:=@ef env r x k'
   have h:List.lookup x ((if(k==NameKind.free && env.scope.kind== .function && env.kindOf n==some .cell)=true then(n,NameKind.cell) else(n,k)) ::_)=some k':=h
   by_cases hc:(k==NameKind.free && env.scope.kind== .function && env.kindOf n==some .cell)=true
   ·rw[if_pos hc] at h
    have hkf:k= .free:=by
     simp only[Bool.and_eq_true,beq_iff_eq] at hc
     exact hc.1.1
    cases hx:x==n with
    | true=>
      rw[List.lookup_cons,hx] at h
      cases h
      exact .inr ⟨rfl,by rw[List.lookup_cons,hx,hkf]⟩
    | false=>
      rw[List.lookup_cons,hx] at h
      rw[List.lookup_cons,hx]
      exact ih h
   ·rw[if_neg hc] at h
    cases hx:x==n with
    | true=>
      rw[List.lookup_cons,hx] at h
      rw[List.lookup_cons,hx]
      exact .inl h
    | false=>
      rw[List.lookup_cons,hx] at h
      rw[List.lookup_cons,hx]
      exact ih h
theorem lz{pins:List (Addr × Obj)}{σ:St}{H:Hp}{s:Shared}(C:ck X scope own kp kn)(I:Inv X pins σ H s):∀y∈scope.names,y.2= .free→∃c,X.env.cells.lookup y.1=some c:=fun y hy hf=>
 I.ok.has y.1 (C.free y hy hf)
theorem zH{pins:List (Addr × Obj)}{σ:St}{H:Hp}{s:Shared}{fp:List Addr}{h₁:Heap}{tk:Nat}(C:ck X scope own kp kn)(I:Inv X pins σ H s)(hf:∀b∈fp,n9 X pins H b)(hb:∀b∈fp,b < s.heap.objs.size)
 (hn:h₁.Ns s.heap.objs.size (fun _=>none)) (hk:∀b o,s.heap.get? b=some o→h₁.get? b=some o):Inv (bC X scope (own++kn) fp s H) [] (dk own kp σ) H {s with heap:=h₁,toks:=tk}:=by
 have cl:∀x c,(n_ X.env.cells scope.names []).lookup x=some c→X.env.cells.lookup x=some c:=fun x c e=>by
  rcases ko scope.names [] e with q | ⟨q1,q2⟩
  ·simp at q
  ·obtain⟨c',hc'⟩:=lz C I (x, .free) q1 rfl
   have hc':X.env.cells.lookup x=some c':=hc'
   rw[hc'] at q2
   rw[hc',q2]
   rfl
 have clh:∀x,scope.names.lookup x=some .free→∃c,(n_ X.env.cells scope.names []).lookup x=some c:=fun x hx=>t6 scope.names [] (.inl (PySem.mem_of_lookup hx))
 refine⟨⟨I.ok.mod,C.kind,I.ok.glob,I.ok.blt,Nat.le_refl _,fun x y c h1 h2=>I.ok.inj x y c (cl x c h1) (cl y c h2),fun x hx=>?_,fun x c h=>(by cases h),I.ok.hd,I.ok.frames, .inl rfl,fun b hb'=>⟨Nat.ne_of_lt (hb b hb'),fun x c e z=>(hf b hb').2.2.2.2.1 x c (cl x c e) z⟩,
  fun b o e=>I.bs b o e,Nat.le_trans I.ok.bsz I.sz,fun b o e hb'=>?_,fun b hb' hs=>?_,I.stack,I.x5⟩,
  rfl,I.bare,Un.kept hk,⟨_,hn,fun i x v h1 h2 h3=>?_⟩,fun x c e=>?_,I.hok.fresh (Nat.le_refl _),fun x c e=>I.freeC x c (cl x c e),fun p hp=>(by cases hp),I.hok.kept hk,?_⟩
 ·have hx:(relabel scope X.env).names.lookup x=some .cell∨(relabel scope X.env).names.lookup x=some .free:=hx
  rcases hx with hx | hx
  ·rcases ef hx with q | ⟨_,q⟩
   ·exact absurd rfl (C.nocell _ (PySem.mem_of_lookup q))
   ·exact clh x q
  ·rcases ef hx with q | ⟨q,_⟩
   ·exact clh x q
   ·cases q
 ·rcases(hf b hb').2.2.2.1 with z | z
  ·exact I.ok.noex b o e z
  ·exact absurd (Nat.lt_of_lt_of_le (Heap.lt_size (I.ok.bs b o e).1) z) (Nat.lt_irrefl _)
 ·rcases List.mem_cons.mp (I.wq b hs) with z | z
  ·exact(hf b hb').2.1 z
  ·exact(hf b hb').2.2.1 z
 ·-- a kept name
  have h1:(own++kn)[i]? =some x:=h1
  have h2:(dk own kp σ)[i]? =some (some v):=h2
  unfold dk at h2
  by_cases hi:i < own.length
  ·rw[List.getElem?_append_left (by simpa using hi),List.getElem?_replicate] at h2
   split at h2 <;> cases h2
  ·rw[List.getElem?_append_right (by simpa using hi),List.length_replicate,List.getElem?_map] at h2
   rw[List.getElem?_append_right (by simpa using hi)] at h1
   cases e:kp[i - own.length]? with
   | none=>rw [e] at h2;cases h2
   | some j=>
     rw[e] at h2
     have h2:(σ[j]?).getD none=some v:=Option.some.inj h2
     have hj:X.N[j]? =some x:=C.at_ _ j x e h1
     have hσ:σ[j]? =some (some v):=by
      cases q:σ[j]? with
      | none=>rw [q] at h2;cases h2
      | some y=>rw [q] at h2;exact congrArg some h2
     have hfree:scope.names.lookup x=some .free:=C.isfree x (List.mem_of_getElem? h1)
     have hkind:=C.free (x, .free) (PySem.mem_of_lookup hfree) rfl
     obtain⟨m,hm,hl⟩:=I.loc
     obtain⟨u,r,l⟩:=hl j x v hj hσ (hkind.elim (fun q=>Or.inr (Or.inl q)) fun q=>Or.inr (Or.inr q))
     refine⟨u,r, .inr ⟨?_,?_⟩⟩
     ·have h3:(relabel scope X.env).names.lookup x=some .local∨(relabel scope X.env).names.lookup x=some .cell∨(relabel scope X.env).names.lookup x=some .free:=h3
      rcases h3 with q | q | q
      ·rcases ef q with z | ⟨z,_⟩
       ·rw[hfree] at z;cases z
       ·cases z
      ·exact .inl q
      ·exact .inr q
     ·rcases l with⟨k,_⟩ | ⟨_,c,hc,hcell⟩
      ·rcases hkind with q | q
       ·rw[show X.env.kindOf x=some .cell from q] at k;cases k
       ·rw[show X.env.kindOf x=some .free from q] at k;cases k
      ·obtain⟨c',hc'⟩:=clh x hfree
       have:=cl x c' hc'
       rw[hc] at this
       cases this
       obtain⟨o,ho,hd⟩:=hcell
       exact⟨c,hc',o,hk c o ho,hd⟩
 ·obtain⟨v,o,ho,hd⟩:=I.cell x c (cl x c e)
  exact⟨v,o,hk c o ho,hd⟩
 ·show(dk own kp σ).length=(own++kn).length
  unfold dk
  rw[List.length_append,List.length_replicate,List.length_map,List.length_append,C.names]
theorem pk{pins:List (Addr × Obj)}{σ σ':St}{H H':Hp}{s s':Shared}{fp:List Addr}{N':List Str}(I:Inv X pins σ H s)(hf:∀b∈fp,n9 X pins H b)(J:Inv (bC X scope N' fp s H) [] σ' H' s'):Inv X pins σ H' s':=
 I.He (ch:=fp) J.os J.base J.hok J.bare fun b hb=>⟨(hf b hb).2.2.2.1,(hf b hb).2.1,(hf b hb).2.2.2.2.1,(hf b hb).2.2.2.2.2⟩
end
noncomputable def m7(X:Cx)(ifs:List Expr)(t:TT):Prop:=
 ∀(pins:List (Addr × Obj)) (s:Shared) (σ:St) (H:Hp) (Q:Bool→Hp→Prop),Inv X pins σ H s→t σ H Q→
  wpAny (model X.prog X.w) X.A (forIn ifs true fun c r=>if r=true then do let ok ←isTrue c X.env (eval c X.env);pure (ForInStep.yield ok) else pure (ForInStep.yield r)) (TP X pins σ Q) X.xe s
noncomputable def Jc:TT:=fun _ H Q=>Q true H
theorem tJ{X:Cx}:m7 X [] Jc:=fun _ _ _ H _ I h=>wpAny_tests_nil ⟨H,I,h⟩
theorem tq{X:Cx}{c:Expr}{t:TT}(h:PT X c t):m7 X [c] t:=fun pins s σ H Q I hq=>wpAny_tests_one (h pins s σ H Q I hq)
noncomputable def yb(wi:TI)(g:TG)(tc:TT)(te:TE)(own:List Str)(kp:List Nat):TE:=fun σ H Q=>wi σ H fun J H1=>∀D,H1 D=none→
 ∃W:Nat→Nat→List V→Hp→Prop,(∃m,W 0 m [] (upd H1 D (.lst [])))∧∀i m ys H,W i m ys H→
  (J.stop i H∧Q (.ref D) H)∨(J.go i H∧∀x H',J.yld i H x H'→g x (dk own kp σ) H' fun σ2 H2=>tc σ2 H2 fun c H3=>
    if c=true then te σ2 H3 fun y H4=>H4 D=some (.lst ys)∧ys.length < sizeLine∧∃m',m' < m∧W (i+1) m' (ys++[y]) (upd H4 D (.lst (ys++[y])))
    else ∃m',m' < m∧W (i+1) m' ys H3)
section
variable {X:Cx} {scope:Scope} {own:List Str} {kp:List Nat} {kn:List Str} {tg iter elt:Expr} {ifs:List Expr} {wi:TI} {g:TG} {tc:TT} {te:TE} {pos:Pos}
theorem uf{pins:List (Addr × Obj)}{σ:St}{H:Hp}{s:Shared}{fp:List Addr}{it D:Addr}{tn:Nat→Heap→Prop}{J:It}{Q:VK}{h₁:Heap}{tk:Nat}{R:Result→Shared→Prop}
 (hc:X.calm=true) (C:ck X scope own kp kn) (I:Inv X pins σ H s) (hf:∀b∈fp,n9 X pins H b) (hb:∀b∈fp,b < s.heap.objs.size) (T:Turn X.prog X.w X.K tg J fp it tn)
 (hg:PG (bC X scope (own++kn) fp s H) tg g) (hi:m7 (bC X scope (own++kn) fp s H) ifs tc) (he:PE (bC X scope (own++kn) fp s H) elt te)
 (hn:h₁.Ns s.heap.objs.size (fun _=>none)) (hk:∀b o,s.heap.get? b=some o→h₁.get? b=some o) (st:tn 0 s.heap)
 (W:Nat→Nat→List V→Hp→Prop) (w0:∃m,W 0 m [] H)
 (turn:∀i m ys H,W i m ys H→
   (J.stop i H∧Q (.ref D) H)∨(J.go i H∧∀x H',J.yld i H x H'→g x (dk own kp σ) H' fun σ2 H2=>tc σ2 H2 fun c H3=>
     if c=true then te σ2 H3 fun y H4=>H4 D=some (.lst ys)∧ys.length < sizeLine∧∃m',m' < m∧W (i+1) m' (ys++[y]) (upd H4 D (.lst (ys++[y])))
     else ∃m',m' < m∧W (i+1) m' ys H3))
 (hR:∀H' s' σ',Inv (bC X scope (own++kn) fp s H) [] σ' H' s'→Q (.ref D) H'→R (.ok .next) s') :
 codeAny (model X.prog X.w) X.A (.compStart (.ListComp elt [⟨tg,iter,ifs,0⟩] scope pos) 0 (.ref it) (.ref D) (bC X scope (own++kn) fp s H).env) R {s with heap:=h₁,toks:=tk}:=by
 have I1:Inv (bC X scope (own++kn) fp s H) [] (dk own kp σ) H {s with heap:=h₁,toks:=tk}:=zH C I hf hb hn hk
 have st1:tn 0 h₁:=T.keep _ _ _ st fun b _ o e=>hk b o e
 have fp1:∀{H':Hp} {p:List (Addr × Obj)},(∀b∈fp,H' b=none)→(∀b∈fp,∀q∈p,q.1≠b)→∀b∈fp,n9 (bC X scope (own++kn) fp s H) p H' b:=fun {H' p} hn hp b hb'=>
  ⟨hn b hb',(I1.ok.exf b hb').1,I1.ok.exfs b hb', .inl hb',fun x c e=>(I1.ok.exf b hb').2 x c e,fun q hq=>hp b hb' q hq⟩
 obtain⟨m0,w0⟩:=w0
 have loop:codeAny (model X.prog X.w) X.A (.compLoop (.ListComp elt [⟨tg,iter,ifs,0⟩] scope pos) 0 (.ref it) (.ref D) (bC X scope (own++kn) fp s H).env) R {s with heap:=h₁,toks:=tk}:=by
  refine codeAny_loop rfl (fun n s'=>∃i ys H',Inv (bC X scope (own++kn) fp s H) [] (dk own kp σ) H' s'∧tn i s'.heap∧(∀b∈fp,H' b=none)∧W i n ys H') (fun n s' hI=>?_) m0 ⟨0,[],H,I1,st1,fun b hb'=>(hf b hb').1,w0⟩
  obtain⟨i,ys,H3,I3,st3,fr3,w3⟩:=hI
  show wpAny _ _ ((compTurn (.ListComp elt [⟨tg,iter,ifs,0⟩] scope pos) 0 (.ref it) (.ref D) (bC X scope (own++kn) fp s H).env).onRaise (fun x=>do noteFrame x (bC X scope (own++kn) fp s H).env;theTreesLotGoes x)) _ _ s'
  refine wpAny_noted (wpAny_noRaise ?_)
  rw[compTurn_list]
  refine wpAny_bind (wpAny_standAt (wpAny_bind ?_))
  rcases turn i n ys H3 w3 with⟨stop,q⟩ | ⟨go,step⟩
  ·refine dR (T.done (bC X scope (own++kn) fp s H) rfl rfl rfl hc i [] s' _ H3 _ I3 (fp1 fr3 (fun _ _ q hq=>by cases hq)) st3 stop) fun r s4 ⟨hr,I4⟩=>?_
   subst hr
   exact wpAny_pure (hR H3 s4 _ I4 q)
  ·refine dR (T.item (bC X scope (own++kn) fp s H) rfl rfl rfl hc i [] s' _ H3 _ I3 (fp1 fr3 (fun _ _ q hq=>by cases hq)) st3 go) fun r s4 ⟨u,hr,h4⟩=>?_
   subst hr
   refine wpAny_bind (dR h4 fun _ s5 ⟨x,H5,I5,r5,y5,st5,fr5⟩=>?_)
   have I5':=I5.pinned (fp1 fr5 (fun _ _ q hq=>by cases hq)) (T.obj _ _ st5)
   have keepIt:∀{σ7:St} {H7:Hp} {s7:Shared},Inv (bC X scope (own++kn) fp s H) ([]++lJ fp s5.heap) σ7 H7 s7→tn (i+1) s7.heap∧∀b∈fp,H7 b=none:=fun {σ7 H7 s7} I7=>by
    refine⟨T.keep _ _ _ st5 fun b hb o e=>(I7.pin (b,o) (List.mem_append_right _ (List.mem_append_right _ (jt hb e)))).1,fun b hb=>?_⟩
    obtain⟨o,e,d⟩:=T.obj _ _ st5 b hb
    exact(I7.pin (b,o) (List.mem_append_right _ (List.mem_append_right _ (jt hb e)))).2.1
   have reset:∀{σ7:St} {H7:Hp} {s7:Shared},Inv (bC X scope (own++kn) fp s H) ([]++lJ fp s5.heap) σ7 H7 s7→Inv (bC X scope (own++kn) fp s H) [] (dk own kp σ) H7 s7:=fun {σ7 H7 s7} I7=>by
    have I8:=I7.ml
    have hun:Un (zm X.stack) fp H H7 s.heap s7.heap:=I8.base
    have I9:Inv X pins σ H7 s7:=pk I hf I8
    refine⟨I8.ok,I8.os,I8.bare,I8.base,?_,I8.cell,I8.free,I8.freeC,I8.pin,I8.hok,I1.len⟩
    obtain⟨m,hm,_⟩:=I8.loc
    refine⟨m,hm,fun i x v h1 h2 h3=>?_⟩
    obtain⟨m1,hm1,hl1⟩:=I1.loc
    obtain⟨u1,r1,l1⟩:=hl1 i x v h1 h2 h3
    have h1:(own++kn)[i]? =some x:=h1
    have h2:(dk own kp σ)[i]? =some (some v):=h2
    unfold dk at h2
    by_cases hi:i < own.length
    ·rw[List.getElem?_append_left (by simpa using hi),List.getElem?_replicate] at h2
     split at h2 <;> cases h2
    ·rw[List.getElem?_append_right (by simpa using hi),List.length_replicate,List.getElem?_map] at h2
     rw[List.getElem?_append_right (by simpa using hi)] at h1
     cases e:kp[i - own.length]? with
     | none=>rw [e] at h2;cases h2
     | some j=>
       rw[e] at h2
       have h2:(σ[j]?).getD none=some v:=Option.some.inj h2
       have hj:X.N[j]? =some x:=C.at_ _ j x e h1
       have hσ:σ[j]? =some (some v):=by
        cases q:σ[j]? with
        | none=>rw [q] at h2;cases h2
        | some y=>rw [q] at h2;exact congrArg some h2
       have hfree:scope.names.lookup x=some .free:=C.isfree x (List.mem_of_getElem? h1)
       have hkind:=C.free (x, .free) (PySem.mem_of_lookup hfree) rfl
       obtain⟨m9,hm9,hl9⟩:=I9.loc
       obtain⟨u,r,l⟩:=hl9 j x v hj hσ (hkind.elim (fun q=>Or.inr (Or.inl q)) fun q=>Or.inr (Or.inr q))
       refine⟨u,r, .inr ?_⟩
       rcases l1 with⟨k,k2⟩ | ⟨k,c,hc,hcell⟩
       ·have k:(relabel scope X.env).names.lookup x=some .local:=k
        rcases ef k with z | ⟨z,_⟩
        ·rw[hfree] at z;cases z
        ·cases z
       ·refine⟨k,c,hc,?_⟩
        rcases l with⟨k',_⟩ | ⟨_,c',hc',hcell'⟩
        ·rcases hkind with q | q
         ·rw[show X.env.kindOf x=some .cell from q] at k';cases k'
         ·rw[show X.env.kindOf x=some .free from q] at k';cases k'
        ·have hcl:(n_ X.env.cells scope.names []).lookup x=some c:=hc
         rcases ko scope.names [] hcl with q | ⟨q1,q2⟩
         ·simp at q
         ·rw[hc'] at q2
          have q2:c=c':=q2
          rw[q2]
          exact hcell'
   have hmm:=hg ([]++lJ fp s5.heap) s5 (dk own kp σ) H5 x u _ I5' r5 (step x H5 y5)
   refine wpAny_bind (dR hmm fun _ s6 ⟨σ6,H6,I6,q6⟩=>?_)
   refine wpAny_bind (dR (hi _ s6 σ6 H6 _ I6 q6) fun ok s7 ⟨H7,I7,q7⟩=>?_)
   cases ok with
   | false=>
     simp only[Bool.false_eq_true,if_false] at q7 ⊢
     obtain⟨m',hm',w7⟩:=q7
     obtain⟨a1,a2⟩:=keepIt I7
     exact wpAny_pure ⟨rfl,m',hm',i+1,ys,H7,reset I7,a1,a2,w7⟩
   | true=>
     simp only[if_true] at q7 ⊢
     refine wpAny_bind (wpAny_bind (dR (he _ s7 σ6 H7 _ I7 q7) fun yv s8 ⟨y,H8,I8,r8,hD,hlt,m',hm',w8⟩=>wpAny_bind ?_))
     obtain⟨a1,a2⟩:=keepIt I8
     refine dR (mX _ s8 σ6 H8 (.ref D) [y] (.ref D) [yv] (fun v H9=>v= .cK∧H9=upd H8 D (.lst (ys++[y]))) I8 rfl (.cons r8 .nil) ⟨D,ys,y,rfl,rfl,hD,hlt,rfl,rfl⟩) fun _ s9 ⟨v9,H9,I9,_,_,e9⟩=>?_
     subst e9
     obtain⟨b1,b2⟩:=keepIt I9
     exact wpAny_pure (wpAny_pure ⟨rfl,m',hm',i+1,ys++[y],_,reset I9,b1,b2,w8⟩)
 exact codeAny_compStart_list loop (T.self _ _ _ _ _ st1 loop)
theorem xY(hc:X.calm=true)(C:ck X scope own kp kn)(hi:PI X tg iter wi)(hg:∀fp s H,PG (bC X scope (own++kn) fp s H) tg g)(hif:∀fp s H,m7 (bC X scope (own++kn) fp s H) ifs tc)
 (he:∀fp s H,PE (bC X scope (own++kn) fp s H) elt te) (hs:∀x,foldedSetIterable iter X.env x=pure x:=by intro _;rfl):PE X (.ListComp elt [⟨tg,iter,ifs,0⟩] scope pos) (yb wi g tc te own kp):=by
 intro pins s σ H Q I h
 rw[eval_ListComp]
 refine wpAny_comprehension_free (use:=none) rfl hs (jM (lz C I)) C.kind C.nd (dR (hi pins s σ H _ I h) fun v s1 h1=>dR h1 fun itv s2 h2=>?_)
 obtain⟨it,fp,tn,J,H2,e,I2,T,st2,f2,q⟩:=h2
 subst e
 refine wpAny_newObj_type ?_
 have I3:Inv X pins σ (upd H2 s2.heap.objs.size (.lst [])) {s2 with heap:=s2.heap.push {cls:= .type "list",dict:=none,data:= .seq ([]:List Value).toArray}}:=I2.Cm (its:=[]) (t':=s2.toks) .nil (Nat.zero_le _)
 obtain⟨W,w0,turn⟩:=q s2.heap.objs.size I2.fresh
 have fne:∀b∈fp,b < s2.heap.objs.size:=fun b hb=>let⟨o,e,_⟩:=T.obj _ _ st2 b hb;Heap.lt_size e
 have f3:∀b∈fp,n9 X pins (upd H2 s2.heap.objs.size (.lst [])) b:=fun b hb=>⟨by rw[bc (Nat.ne_of_lt (fne b hb))];exact(f2 b hb).1,(f2 b hb).2⟩
 generalize hs3:({s2 with heap:=s2.heap.push {cls:= .type "list",dict:=none,data:= .seq ([]:List Value).toArray}}:Shared)=s3 at I3 ⊢
 have st3:tn 0 s3.heap:=by rw[←hs3];exact T.keep _ _ _ st2 fun b _ o e=>Heap.get?_push_of_some _ e
 have fne3:∀b∈fp,b < s3.heap.objs.size:=fun b hb=>by rw[←hs3];exact Nat.lt_of_lt_of_le (fne b hb) (by rw[Heap.size_push];exact Nat.le_succ _)
 refine wpAny_newFunctionEnv (fun y hy=>C.nocell y hy) (by intro y hy;simp at hy) (fun h₁ hns₁ hsb₁=>?_) C.kind
 have hk:∀b o,s3.heap.get? b=some o→h₁.get? b=some o:=fun b o e=>hsb₁.extBut b o (Nat.ne_of_lt (Heap.lt_size e)) (Heap.get?_push_of_some _ e)
 refine uf (D:=s2.heap.objs.size) hc C I3 f3 fne3 T (hg fp s3 _) (hif fp s3 _) (he fp s3 _) hns₁ hk st3 W w0 turn fun H' s' σ' J' hq=>?_
 have B:=pk I3 f3 J'
 obtain⟨m',hm',_⟩:=J'.loc
 refine⟨m',hm',fun h' sb=>⟨.ref s2.heap.objs.size,H',?_,rfl,hq⟩⟩
 have fC:=I3.ql (H':=H') (b:=s3.heap.objs.size) (Nat.le_refl _) J'.free
 exact B.turned (it:=s3.heap.objs.size) (t':=s'.toks) (fun b o hb e=>(sb.2 b hb).trans e) fC.1 fC.2.1 fC.2.2.2.1 fC.2.2.2.2.1 fC.2.2.2.2.2
theorem wg{i:Nat}{x:Str}{pos' spos:Pos}(hc:X.calm=true)(hN:X.N.Nodup)(hx:X.N[i]? =some x)(hxl:X.env.scope.names.lookup x=some .local)(C:ck X scope own kp kn)(hi:PI X tg iter wi)
 (hg:∀fp s H,PG (bC X scope (own++kn) fp s H) tg g) (hif:∀fp s H,m7 (bC X scope (own++kn) fp s H) ifs tc)
 (he:∀fp s H,PE (bC X scope (own++kn) fp s H) elt te)
 (hsw:swapsWith (.ListComp elt [⟨tg,iter,ifs,0⟩] scope pos) (some (.Name x pos')) spos.line X.env=pure true:=by rfl)
 (hs:∀x,foldedSetIterable iter X.env x=pure x:=by intro _;rfl) :
 PS X (.Assign [.Name x pos'] (.ListComp elt [⟨tg,iter,ifs,0⟩] scope pos) spos) (yx (yb wi g tc te own kp) (pJ i)):=by
 intro pins s σ H D I h
 rw[exec_Assign_Name_used _ _ _ _ hsw]
 refine wpAny_bind (wpAny_standAt (wpAny_bind ?_))
 show wpAny _ X.A (do let _ ←comprehension (.ListComp elt [⟨tg,iter,ifs,0⟩] scope pos) scope X.env _ (newList []) false (eval iter X.env) (some (assign (.Name x pos') X.env))) _ _ s
 refine wpAny_bind (wpAny_mono (wpAny_comprehension_free (use:=some (assign (.Name x pos') X.env)) (Q:=fun _ s'=>SP X pins D .next s') rfl hs (jM (lz C I)) C.kind C.nd
  (dR (hi pins s σ H _ I h) fun v s1 h1=>dR h1 fun itv s2 h2=>?_)) (fun _ s' hq=>wpAny_pure (wpAny_pure hq)) fun _ _ e=>e)
 obtain⟨it,fp,tn,J,H2,e,I2,T,st2,f2,q⟩:=h2
 subst e
 refine wpAny_newObj_type ?_
 have I3:Inv X pins σ (upd H2 s2.heap.objs.size (.lst [])) {s2 with heap:=s2.heap.push {cls:= .type "list",dict:=none,data:= .seq ([]:List Value).toArray}}:=I2.Cm (its:=[]) (t':=s2.toks) .nil (Nat.zero_le _)
 obtain⟨W,w0,turn⟩:=q s2.heap.objs.size I2.fresh
 have fne:∀b∈fp,b < s2.heap.objs.size:=fun b hb=>let⟨o,e,_⟩:=T.obj _ _ st2 b hb;Heap.lt_size e
 have f3:∀b∈fp,n9 X pins (upd H2 s2.heap.objs.size (.lst [])) b:=fun b hb=>⟨by rw[bc (Nat.ne_of_lt (fne b hb))];exact(f2 b hb).1,(f2 b hb).2⟩
 generalize hs3:({s2 with heap:=s2.heap.push {cls:= .type "list",dict:=none,data:= .seq ([]:List Value).toArray}}:Shared)=s3 at I3 ⊢
 have st3:tn 0 s3.heap:=by rw[←hs3];exact T.keep _ _ _ st2 fun b _ o e=>Heap.get?_push_of_some _ e
 have fne3:∀b∈fp,b < s3.heap.objs.size:=fun b hb=>by rw[←hs3];exact Nat.lt_of_lt_of_le (fne b hb) (by rw[Heap.size_push];exact Nat.le_succ _)
 refine wpAny_newFunctionEnv (fun y hy=>C.nocell y hy) (by intro y hy;simp at hy) (fun h₁ hns₁ hsb₁=>?_) C.kind
 have hk:∀b o,s3.heap.get? b=some o→h₁.get? b=some o:=fun b o e=>hsb₁.extBut b o (Nat.ne_of_lt (Heap.lt_size e)) (Heap.get?_push_of_some _ e)
 refine uf (Q:=fun x H1=>pJ i x σ H1 D.nx) (D:=s2.heap.objs.size) hc C I3 f3 fne3 T (hg fp s3 _) (hif fp s3 _) (he fp s3 _) hns₁ hk st3 W w0 turn fun H' s' σ' J' hq=>?_
 have B:=pk I3 f3 J'
 obtain⟨m',hm',_⟩:=J'.loc
 have fC:=I3.ql (H':=H') (b:=s3.heap.objs.size) (Nat.le_refl _) J'.free
 show wpAny _ X.A (assign (.Name x pos') X.env (.ref s2.heap.objs.size)) _ _ s'
 refine wpAny_assign_Name (rh B hN hx (.inl hxl) (v:= .ref s2.heap.objs.size) rfl (fun s4 I4 ⟨a,sb,ha⟩=>?_) (.inr hxl))
 have ha':s3.heap.objs.size≠a:=by
  rcases ha with rfl | z
  ·exact fC.2.1
  ·exact fun e=>fC.2.2.2.2.1 x a z e.symm
 refine⟨m',hm'.sameBut sb ha',fun h' sb'=>⟨_,H',?_,hq⟩⟩
 exact I4.turned (it:=s3.heap.objs.size) (t':=s4.toks) (fun b o hb e=>(sb'.2 b hb).trans e) fC.1 fC.2.1 fC.2.2.2.1 fC.2.2.2.2.1 fC.2.2.2.2.2
end
end L2
end
section
set_option maxRecDepth 100000
set_option maxHeartbeats 4000000
namespace L2
open PySem PySem.Spec PyProof.Rows
inductive D where
 | cK | bl (b:Bool) | int (i:Int) | str (x:Str) | lst (ds:List D) | tup (ds:List D) | dct (ks:List Key) (ds:List D)
inductive R (α:Type) where
 | ok (a:α) | ex (c:Nat) | no
noncomputable def R.bind{α β:Type}:R α→(α→R β)→R β
 | .ok a,f=>f a
 | .ex c,_=> .ex c
 | .no,_=> .no
theorem R.aj{α β:Type}{r:R α}{f:α→R β}{b:β}(h:r.bind f= .ok b):∃a,r= .ok a∧f a= .ok b:=by
 cases r with
 | ok a=>exact⟨a,rfl,h⟩
 | ex c=>cases h
 | no=>cases h
@[simp] theorem R.aO{α β:Type}(a:α)(f:α→R β):(R.ok a).bind f=f a:=rfl
noncomputable def R.bE{α:Type}(c:Bool)(r:R α):R α:=if c then r else .no
theorem R.bf{α:Type}{c:Bool}{r:R α}{a:α}(h:R.bE c r= .ok a):c=true∧r= .ok a:=by
 cases c with
 | true=>exact⟨rfl,h⟩
 | false=>cases h
@[simp] theorem R.gb{α:Type}(r:R α):R.bE true r=r:=rfl
noncomputable def qd(K:PySem.W.Frag)(B:List Addr)(H:Hp)(a:Addr)(xs:List V):Prop:=
 (a ∉ B∧Rd H a (.lst xs))∨∃(its:List Value) (n:Nat),K.lookup a=some {cls:= .type "list",data:= .seq its.toArray n}∧xs.length≤sizeLine∧Vals xs its
noncomputable def qZ(K:PySem.W.Frag)(B:List Addr)(H:Hp)(a:Addr)(xs:List V):Prop:=
 (a ∉ B∧Rd H a (.tup xs))∨∃(o:Obj) (its:Array Value) (n:Nat),K.lookup a=some o∧o.cls= .type "tuple"∧o.data= .seq its n∧its.size≤sizeLine∧Vals xs its.toList
theorem qd.sq{K:PySem.W.Frag}{B:List Addr}{H:Hp}{a:Addr}{xs:List V}(h:qd K B H a xs):kZ K H a xs:=by
 rcases h with z | ⟨its,n,hk,hz,r⟩
 ·exact .inl z.2
 ·exact .inr ⟨_,its.toArray,n,hk,rfl,rfl,rfl,by rw[List.size_toArray,←r.length];exact hz,by simpa using r⟩
theorem qZ.sq{K:PySem.W.Frag}{B:List Addr}{H:Hp}{a:Addr}{xs:List V}(h:qZ K B H a xs):nV K H a xs:=h.elim (fun z=> .inl z.2) .inr
mutual
noncomputable def Rep(K:PySem.W.Frag)(B:List Addr)(H:Hp):D→V→Prop
 | .cK,v=>v= .cK
 | .bl b,v=>v= .bl b
 | .int i,v=>v= .int i
 | .str x,v=>v= .str x
 | .lst ds,v=>∃a xs,v= .ref a∧qd K B H a xs∧aC K B H ds xs
 | .tup ds,v=>∃a xs,v= .ref a∧qZ K B H a xs∧aC K B H ds xs
 | .dct ks ds,v=>∃(a:Addr) (kvs:List (Key × V)),v= .ref a∧(a ∉ B∧H a=some (.dK kvs))∧kvs.map (·.1)=ks∧aC K B H ds (kvs.map (·.2))
noncomputable def aC(K:PySem.W.Frag)(B:List Addr)(H:Hp):List D→List V→Prop
 | [],xs=>xs=[]
 | d ::ds,xs=>∃x r,xs=x ::r∧Rep K B H d x∧aC K B H ds r
end
noncomputable def dq(B:List Addr)(H:Hp)(B':List Addr)(H':Hp):Prop:=∀b o,H b=some o→b ∉ B→H' b=some o∧b ∉ B'
theorem dq.rd{B B':List Addr}{H H':Hp}(p:dq B H B' H'){a:Addr}{u:HO}(h:Rd H a u)(n:a ∉ B):Rd H' a u∧a ∉ B':=by
 rcases h with e | ⟨o,e⟩
 ·exact⟨.inl (p a _ e n).1,(p a _ e n).2⟩
 ·exact⟨.inr ⟨o,(p a _ e n).1⟩,(p a _ e n).2⟩
theorem dq.trans{B B' B'':List Addr}{H H' H'':Hp}(p:dq B H B' H')(q:dq B' H' B'' H''):dq B H B'' H'':=fun b o e n=>
 let⟨e1,n1⟩:=p b o e n;q b o e1 n1
theorem dq.same{B:List Addr}{H H':Hp}(s:aS H H'):dq B H B H':=fun b o e n=>⟨s b o e,n⟩
theorem dq.refl(B:List Addr)(H:Hp):dq B H B H:=dq.same (aS.refl H)
theorem qd.bo{K:PySem.W.Frag}{B B':List Addr}{H H':Hp}(p:dq B H B' H'){a:Addr}{xs:List V}(l:qd K B H a xs):qd K B' H' a xs:=
 l.elim (fun z=> .inl ⟨(p.rd z.2 z.1).2,(p.rd z.2 z.1).1⟩) .inr
mutual
theorem Rep.bo{K:PySem.W.Frag}{B B':List Addr}{H H':Hp}(p:dq B H B' H'):∀{d:D} {v:V},Rep K B H d v→Rep K B' H' d v
 | .cK,_,h=>h
 | .bl _,_,h=>h
 | .int _,_,h=>h
 | .str _,_,h=>h
 | .lst ds,v,h=>by
   unfold Rep at h ⊢
   obtain⟨a,xs,e,l,r⟩:=h
   exact⟨a,xs,e,l.bo p,aC.bo p r⟩
 | .tup ds,v,h=>by
   unfold Rep at h ⊢
   obtain⟨a,xs,e,l,r⟩:=h
   exact⟨a,xs,e,l.elim (fun z=> .inl ⟨(p.rd z.2 z.1).2,(p.rd z.2 z.1).1⟩) .inr,aC.bo p r⟩
 | .dct ks ds,v,h=>by
   unfold Rep at h ⊢
   obtain⟨a,kvs,e,⟨n,l⟩,k,r⟩:=h
   exact⟨a,kvs,e,⟨(p a _ l n).2,(p a _ l n).1⟩,k,aC.bo p r⟩
theorem aC.bo{K:PySem.W.Frag}{B B':List Addr}{H H':Hp}(p:dq B H B' H'):∀{ds:List D} {xs:List V},aC K B H ds xs→aC K B' H' ds xs
 | [],_,h=>h
 | d ::ds,xs,h=>by
   unfold aC at h ⊢
   obtain⟨x,r,e,h1,h2⟩:=h
   exact⟨x,r,e,Rep.bo p h1,aC.bo p h2⟩
end
theorem Rep.same{K:PySem.W.Frag}{B:List Addr}{H H':Hp}{d:D}{v:V}(h:Rep K B H d v)(s:aS H H'):Rep K B H' d v:=h.bo (dq.same s)
theorem aC.same{K:PySem.W.Frag}{B:List Addr}{H H':Hp}{d:List D}{v:List V}(h:aC K B H d v)(s:aS H H'):aC K B H' d v:=h.bo (dq.same s)
theorem aC.nil{K:PySem.W.Frag}{B:List Addr}{H:Hp}:aC K B H [] []:=by unfold aC;rfl
theorem aC.cons{K:PySem.W.Frag}{B:List Addr}{H:Hp}{d:D}{ds:List D}{x:V}{xs:List V}(h:Rep K B H d x)(t:aC K B H ds xs):aC K B H (d ::ds) (x ::xs):=by
 unfold aC;exact⟨x,xs,rfl,h,t⟩
theorem aC.bJ{K:PySem.W.Frag}{B:List Addr}{H:Hp}{d:D}{ds:List D}{xs:List V}(h:aC K B H (d ::ds) xs):∃x r,xs=x ::r∧Rep K B H d x∧aC K B H ds r:=by
 unfold aC at h;exact h
theorem aC.length{K:PySem.W.Frag}{B:List Addr}{H:Hp}:∀{ds:List D} {xs:List V},aC K B H ds xs→ds.length=xs.length
 | [],_,h=>by unfold aC at h;rw [h];rfl
 | d ::ds,xs,h=>by
   obtain⟨x,r,rfl,_,h2⟩:=h.bJ
   simp [h2.length]
theorem aC.get{K:PySem.W.Frag}{B:List Addr}{H:Hp}:∀{ds:List D} {xs:List V} {i:Nat} {d:D},aC K B H ds xs→ds[i]? =some d→∃x,xs[i]? =some x∧Rep K B H d x
 | [],_,_,_,_,e=>by simp at e
 | d ::ds,xs,0,d',h,e=>by
   obtain⟨x,r,rfl,h1,h2⟩:=h.bJ
   simp at e;subst e
   exact⟨x,rfl,h1⟩
 | d ::ds,xs,i+1,d',h,e=>by
   obtain⟨x,r,rfl,h1,h2⟩:=h.bJ
   obtain⟨y,e1,e2⟩:=aC.get (i:=i) h2 (by simpa using e)
   exact⟨y,by simpa using e1,e2⟩
theorem aC.append{K:PySem.W.Frag}{B:List Addr}{H:Hp}:∀{ds es:List D} {xs ys:List V},aC K B H ds xs→aC K B H es ys→aC K B H (ds++es) (xs++ys)
 | [],_,_,_,h,t=>by unfold aC at h;subst h;exact t
 | d ::ds,es,xs,ys,h,t=>by
   obtain⟨x,r,rfl,h1,h2⟩:=h.bJ
   exact aC.cons h1 (aC.append h2 t)
theorem aC.drop{K:PySem.W.Frag}{B:List Addr}{H:Hp}:∀{ds:List D} {xs:List V} (n:Nat),aC K B H ds xs→aC K B H (ds.drop n) (xs.drop n)
 | _,_,0,h=>h
 | [],_,n+1,h=>by unfold aC at h;subst h;exact aC.nil
 | d ::ds,xs,n+1,h=>by
   obtain⟨x,r,rfl,h1,h2⟩:=h.bJ
   exact aC.drop n h2
theorem aC.take{K:PySem.W.Frag}{B:List Addr}{H:Hp}:∀{ds:List D} {xs:List V} (n:Nat),aC K B H ds xs→aC K B H (ds.take n) (xs.take n)
 | _,_,0,h=>aC.nil
 | [],_,n+1,h=>by unfold aC at h;subst h;exact aC.nil
 | d ::ds,xs,n+1,h=>by
   obtain⟨x,r,rfl,h1,h2⟩:=h.bJ
   exact aC.cons h1 (aC.take n h2)
noncomputable def D.atom:D→Bool
 | .cK=>true | .bl _=>true | .int _=>true | .str _=>true | _=>false
theorem Rep.atom{K:PySem.W.Frag}{B B':List Addr}{H H':Hp}{d:D}{v:V}(a:d.atom=true)(h:Rep K B H d v):Rep K B' H' d v:=by
 cases d <;> first | exact h | cases a
inductive Sl where
 | un | val (d:D) | bld (ds:List D)
noncomputable abbrev aw:=List Sl
structure dU (K:PySem.W.Frag) (Z B:List Addr) (H:Hp) (σ:St) (δ:aw):Prop where
 len:δ.length=σ.length
 bs:∀a∈B,∃o,H a=some o
 zb:∀a∈Z,a∈B
 val:∀(i:Nat) (d:D),δ[i]? =some (.val d)→∃v,σ[i]? =some (some v)∧Rep K B H d v
 bld:∀(i:Nat) (ds:List D),δ[i]? =some (.bld ds)→∃a xs,σ[i]? =some (some (.ref a))∧a∈B∧a ∉ Z∧H a=some (.lst xs)∧aC K B H ds xs
 dis:∀(i j:Nat) (a:Addr) (ds es:List D),δ[i]? =some (.bld ds)→δ[j]? =some (.bld es)→σ[i]? =some (some (.ref a))→σ[j]? =some (some (.ref a))→i=j
theorem dU.same{K:PySem.W.Frag}{Z B:List Addr}{H H':Hp}{σ:St}{δ:aw}(E:dU K Z B H σ δ)(s:aS H H'):dU K Z B H' σ δ where
 len:=E.len
 bs:=fun a ha=>let⟨o,e⟩:=E.bs a ha;⟨o,s a o e⟩
 zb:=E.zb
 val:=fun i d e=>let⟨v,h1,h2⟩:=E.val i d e;⟨v,h1,h2.same s⟩
 bld:=fun i ds e=>let⟨a,xs,h1,h2,h3,h4,h5⟩:=E.bld i ds e;⟨a,xs,h1,h2,h3,s a _ h4,h5.same s⟩
 dis:=E.dis
noncomputable def r_(δ:aw):aw:=δ.map fun x=>match x with | .bld ds=> .val (.lst ds) | y=>y
theorem PE.imp{X:Cx}{e:Expr}{t t':TE}(h:PE X e t)(w:∀σ H Q,t' σ H Q→t σ H Q):PE X e t':=fun pins s σ H Q I hq=>h pins s σ H Q I (w σ H Q hq)
theorem PT.imp{X:Cx}{e:Expr}{t t':TT}(h:PT X e t)(w:∀σ H Q,t' σ H Q→t σ H Q):PT X e t':=fun pins s σ H Q I hq=>h pins s σ H Q I (w σ H Q hq)
theorem PA.imp{X:Cx}{e:List Expr}{t t':TA}(h:PA X e t)(w:∀σ H Q,t' σ H Q→t σ H Q):PA X e t':=fun pos pins s σ H Q I hq=>h pos pins s σ H Q I (w σ H Q hq)
theorem PS.imp{X:Cx}{e:Stmt}{t t':TS}(h:PS X e t)(w:∀D σ H,t' D σ H→t D σ H):PS X e t':=fun pins s σ H D I hq=>h pins s σ H D I (w D σ H hq)
theorem sT.imp{X:Cx}{e:List Stmt}{t t':TS}(h:sT X e t)(w:∀D σ H,t' D σ H→t D σ H):sT X e t':=fun pins s σ H D I hq=>h pins s σ H D I (w D σ H hq)
theorem PG.imp{X:Cx}{e:Expr}{t t':TG}(h:PG X e t)(w:∀v σ H Q,t' v σ H Q→t v σ H Q):PG X e t':=fun pins s σ H v u Q I r hq=>h pins s σ H v u Q I r (w v σ H Q hq)
theorem PI.imp{X:Cx}{tg e:Expr}{t t':TI}(h:PI X tg e t)(w:∀σ H Q,t' σ H Q→t σ H Q):PI X tg e t':=fun pins s σ H Q I hq=>h pins s σ H Q I (w σ H Q hq)
noncomputable abbrev FD:=aw→R D
noncomputable def tD(K:PySem.W.Frag)(f:FD):TE:=fun σ H Q=>∃Z B δ d,dU K Z B H σ δ∧f δ= .ok d∧∀v H',aS H H'→Rep K B H' d v→Q v H'
noncomputable def tN(K:PySem.W.Frag)(f:aw→R (List D)):TE:=fun σ H Q=>∃Z B δ ds,dU K Z B H σ δ∧f δ= .ok ds∧∀a xs H',aS H H'→H a=none→H' a=some (.lst xs)→aC K (a ::B) H' ds xs→Q (.ref a) H'
noncomputable def ER(K:PySem.W.Frag)(f:aw→R Bool):TT:=fun σ H Q=>∃Z B δ b,dU K Z B H σ δ∧f δ= .ok b∧∀H',aS H H'→Q b H'
noncomputable def JN(K:PySem.W.Frag)(f:aw→R (List D)):TA:=fun σ H Q=>∃Z B δ ds,dU K Z B H σ δ∧f δ= .ok ds∧∀vs H',aS H H'→aC K B H' ds vs→Q vs H'
noncomputable abbrev PD(X:Cx)(e:Expr)(f:FD):Prop:=PE X e (tD X.K f)
noncomputable abbrev PN(X:Cx)(e:Expr)(f:aw→R (List D)):Prop:=PE X e (tN X.K f)
noncomputable abbrev PB(X:Cx)(e:Expr)(f:aw→R Bool):Prop:=PT X e (ER X.K f)
noncomputable abbrev BI(X:Cx)(es:List Expr)(f:aw→R (List D)):Prop:=PA X es (JN X.K f)
section
variable {X:Cx}
noncomputable def eNew(f:aw→R (List D)):FD:=fun δ=>(f δ).bind fun ds=> .ok (.lst ds)
theorem E5{e:Expr}{f:aw→R (List D)}(h:PN X e f):PD X e (eNew f):=h.imp fun σ H Q ⟨Z,B,δ,d,E,hf,q⟩=>by
 obtain⟨ds,h1,h2⟩:=R.aj hf
 cases h2
 refine⟨Z,B,δ,ds,E,h1,fun a xs H' s n e r=>q _ H' s ?_⟩
 unfold Rep
 refine⟨a,xs,rfl, .inl ⟨fun ha=>?_, .inl e⟩,r.bo fun b o e nb=>⟨e,fun hb=>nb (List.mem_cons_of_mem _ hb)⟩⟩
 obtain⟨o,ho⟩:=E.bs a ha
 rw[n] at ho;cases ho
theorem mw{B:List Addr}{H:Hp}{p:Addr}{o:HO}(h:H p=none):dq B H (p ::B) (upd H p o):=fun b u e nb=>
 ⟨by rw[bc (cx e h)];exact e,fun hb=>by
   rcases List.mem_cons.mp hb with z | z
   ·exact cx e h z
   ·exact nb z⟩
noncomputable def p8(f:FD):FD:=fun δ=>(f (r_ δ)).bind fun d=>R.bE d.atom (.ok d)
noncomputable def oI(f:aw→R Bool):aw→R Bool:=fun δ=>f (r_ δ)
noncomputable def ah(i:Nat):FD:=fun δ=>match δ[i]? with | some (.val d)=> .ok d | _=> .no
noncomputable def eC(d:D):FD:=fun _=> .ok d
theorem Fv(i:Nat){x:Str}{pos:Pos}(hN:X.N[i]? =some x:=by rfl)(hv:BM X.env.scope x:=by first | exact Or.inl rfl | exact Or.inr (Or.inl rfl) | exact Or.inr (Or.inr rfl))(hd:(x==("__debug__":Str))=false:=by decide)
 (hcd:(x==("__classdict__":Str))=false:=by decide):PD X (.Name x pos) (ah i):=(ng hN hv hd hcd).imp fun σ H Q ⟨Z,B,δ,d,E,hf,q⟩=>by
 unfold ah at hf
 split at hf
 ·rename_i d' e
  cases hf
  obtain⟨v,h1,h2⟩:=E.val i d e
  exact⟨v,h1,q v H (aS.refl H) h2⟩
 ·cases hf
theorem mr{e:Expr}{v:V}{d:D}(h:PE X e (tC v))(r:∀B H,Rep X.K B H d v):PD X e (eC d):=h.imp fun σ H Q ⟨Z,B,δ,d',E,hf,q⟩=>by
 cases hf
 exact q v H (aS.refl H) (r B H)
theorem Er{i j pos}:PD X (.Constant (.int i) j pos) (eC (.int i)):=mr pq fun _ _=>by unfold Rep;rfl
theorem G0{b j pos}:PD X (.Constant (.bool b) j pos) (eC (.bl b)):=mr GB fun _ _=>by unfold Rep;rfl
theorem Gd{j pos}:PD X (.Constant .none j pos) (eC .cK):=mr Fj fun _ _=>by unfold Rep;rfl
theorem Eh{x j pos}:PD X (.Constant (.str x) j pos) (eC (.str x)):=mr px fun _ _=>by unfold Rep;rfl
noncomputable def Glob(K:PySem.W.Frag)(mg:Str→Option Value)(x:Str)(d:D):Prop:=∃(u:Value) (v:V),mg x=some u∧RelV v u∧∀B H,Rep K B H d v
noncomputable def aV:aw→R (List D):=fun _=> .ok []
noncomputable def ay(f:FD)(g:aw→R (List D)):aw→R (List D):=fun δ=>(f δ).bind fun d=>(g δ).bind fun ds=> .ok (d ::ds)
theorem Dz:BI X [] aV:=gH.imp fun σ H Q ⟨Z,B,δ,d,E,hf,q⟩=>by
 cases hf
 exact q [] H (aS.refl H) aC.nil
theorem Bl{e:Expr}{es:List Expr}{f:FD}{g:aw→R (List D)}(h:PD X e f)(t:BI X es g)(hs:starEach (e ::es) X.env=(false,eval e X.env) ::starEach es X.env:=by rfl):BI X (e ::es) (ay f g):=
 (eT h t hs).imp fun σ H Q ⟨Z,B,δ,d,E,hf,q⟩=>by
   obtain⟨d1,h1,h2⟩:=R.aj hf
   obtain⟨ds,h3,h4⟩:=R.aj h2
   cases h4
   exact⟨Z,B,δ,d1,E,h1,fun v H1 s1 r1=>⟨Z,B,δ,ds,E.same s1,h3,fun vs H2 s2 r2=>q _ H2 (s1.trans s2) (aC.cons (r1.same s2) r2)⟩⟩
noncomputable def eW(g:aw→R (List D)):FD:=fun δ=>(g δ).bind fun ds=>R.bE (decide (ds.length≤sizeLine)) (.ok (.tup ds))
noncomputable def dN(g:aw→R (List D)):aw→R (List D):=fun δ=>(g δ).bind fun ds=>R.bE (decide (ds.length≤sizeLine)) (.ok ds)
theorem aP{H:Hp}{p:Addr}{o:HO}(h:H p=none):aS H (upd H p o):=fun b u e=>by rw[bc (cx e h)];exact e
theorem EY{es:List Expr}{g:aw→R (List D)}{x1 pos}(h:BI X es g):PD X (.Tuple es x1 pos) (eW g):=(zC h).imp fun σ H Q ⟨Z,B,δ,d,E,hf,q⟩=>by
 obtain⟨ds,h1,h2⟩:=R.aj hf
 obtain⟨hl,h3⟩:=R.bf h2
 cases h3
 refine⟨Z,B,δ,ds,E,h1,fun vs H1 s1 r1=>⟨by rw[←r1.length];exact of_decide_eq_true hl,fun p hp=>q _ _ (s1.trans (aP hp)) ?_⟩⟩
 unfold Rep
 refine⟨p,vs,rfl, .inl ⟨fun ha=>?_, .inl aQ⟩,r1.same (aP hp)⟩
 obtain⟨o,ho⟩:=(E.same s1).bs p ha
 rw[hp] at ho;cases ho
theorem F8{es:List Expr}{g:aw→R (List D)}{pos}(h:BI X es g):PN X (.List es pos) (dN g):=(A8 h).imp fun σ H Q ⟨Z,B,δ,d,E,hf,q⟩=>by
 obtain⟨ds,h1,h2⟩:=R.aj hf
 obtain⟨hl,h3⟩:=R.bf h2
 cases h3
 exact⟨Z,B,δ,_,E,h1,fun vs H1 s1 r1=>⟨by rw[←r1.length];exact of_decide_eq_true hl,fun p hp=>q p vs _ (s1.trans (aP hp)) (s1.free hp) aQ (r1.bo (mw hp))⟩⟩
noncomputable def jB(X:Cx)(f:Value→Value→Sem Value)(g:D→D→R D):Prop:=
 ∀(pins:List (Addr × Obj)) (s:Shared) (σ:St) (H:Hp) (B:List Addr) (da db d:D) (x y:V) (v u:Value),Inv X pins σ H s→(∀a∈B,∃o,H a=some o)→RelV x v→RelV y u→Rep X.K B H da x→Rep X.K B H db y→g da db= .ok d→
  wpAny (model X.prog X.w) X.A (f v u) (EP X pins σ fun z H'=>aS H H'∧Rep X.K B H' d z) X.xe s
noncomputable def e2(g:D→D→R D)(fa fb:FD):FD:=fun δ=>(fa δ).bind fun a=>(fb δ).bind fun b=>g a b
theorem jB.r{f:Value→Value→Sem Value}{g:D→D→R D}(h:jB X f g):jT X f (fun x y H Q=>∃B da db d,(∀a∈B,∃o,H a=some o)∧Rep X.K B H da x∧Rep X.K B H db y∧g da db= .ok d∧∀z H',aS H H'→Rep X.K B H' d z→Q z H'):=by
 intro pins s σ H x y v u Q I rx ry ⟨B,da,db,d,hb,ha,hb',hg,q⟩
 exact dR (h pins s σ H B da db d x y v u I hb rx ry ha hb' hg) fun z s' ⟨zv,H',I',r',s1,r1⟩=>⟨zv,H',I',r',q zv H' s1 r1⟩
theorem Fe{K:PySem.W.Frag}{g:D→D→R D}{fa fb:FD}{σ:St}{H:Hp}{Q:VK}(h:tD K (e2 g fa fb) σ H Q) :
 Gi (fun x y H Q=>∃B da db d,(∀a∈B,∃o,H a=some o)∧Rep K B H da x∧Rep K B H db y∧g da db= .ok d∧∀z H',aS H H'→Rep K B H' d z→Q z H') (tD K fa) (tD K fb) σ H Q:=by
 obtain⟨Z,B,δ,d,E,hf,q⟩:=h
 obtain⟨d1,h1,h2⟩:=R.aj hf
 obtain⟨d2,h3,h4⟩:=R.aj h2
 exact⟨Z,B,δ,d1,E,h1,fun v1 H1 s1 r1=>⟨Z,B,δ,d2,E.same s1,h3,fun v2 H2 s2 r2=>⟨B,d1,d2,d,(E.same (s1.trans s2)).bs,r1.same s2,r2,h4,fun z H' s3 r3=>q z H' (s1.trans (s2.trans s3)) r3⟩⟩⟩
theorem GS{op:Operator}{g:D→D→R D}{a b:Expr}{fa fb:FD}{pos:Pos}(ho:jB X (binaryOp op) g)(ha:PD X a fa)(hb:PD X b fb):PD X (.BinOp a op b pos) (e2 g fa fb):=
 (Ag ho.r ha hb).imp fun σ H Q h=>Fe h
theorem Fu{op:CmpOp}{g:D→D→R D}{a b:Expr}{fa fb:FD}{pos:Pos}(ho:jB X (compareOp op) g)(ha:PD X a fa)(hb:PD X b fb)(hm:behindInMarks op b=false):PD X (.Compare a [op] [b] pos) (e2 g fa fb):=
 (xv ho.r ha hb hm).imp fun σ H Q h=>Fe h
noncomputable def b2(g:D→D→R D)(fa fb:FD):aw→R Bool:=fun δ=>(e2 g fa fb δ).bind fun d=>match d with | .bl b=> .ok b | _=> .no
theorem F3{op:CmpOp}{g:D→D→R D}{a b:Expr}{fa fb:FD}{pos:Pos}(ho:jB X (compareOp op) g)(ha:PD X a fa)(hb:PD X b fb)(hm:behindInMarks op b=false):PB X (.Compare a [op] [b] pos) (b2 g fa fb):=
 (xn ho.r ha hb hm).imp fun σ H Q ⟨Z,B,δ,b,E,hf,q⟩=>by
   obtain⟨d,h1,h2⟩:=R.aj hf
   cases d with
   | bl k=>
     cases h2
     exact Fe (g:=g) (Q:=fun x H'=>∃k,x= .bl k∧Q k H') ⟨Z,B,δ, .bl b,E,h1,fun v H' s r=>⟨b,by unfold Rep at r;exact r,q H' s⟩⟩
   | _=>cases h2
noncomputable def Ji(g g':D→D→R D)(fa fb fc:FD):FD:=fun δ=>(fa δ).bind fun a=>(fb δ).bind fun b=>(g a b).bind fun r=>match r with
 | .bl true=>(fc δ).bind fun c=>g' b c
 | .bl false=> .ok (.bl false)
 | _=> .no
noncomputable def o4:D→R Bool
 | .cK=> .ok false
 | .bl b=> .ok b
 | .int i=> .ok (i !=0)
 | .str x=>R.bE (decide (x.length≤sizeLine)) (.ok ((x.length:Int) !=0))
 | .lst ds=> .ok (!ds.isEmpty)
 | .tup ds=> .ok (!ds.isEmpty)
 | .dct _ _=> .no
noncomputable def lu(f:FD):aw→R Bool:=fun δ=>(f δ).bind o4
theorem aC.isEmpty{K:PySem.W.Frag}{B:List Addr}{H:Hp}{ds:List D}{xs:List V}(h:aC K B H ds xs):ds.isEmpty=xs.isEmpty:=by
 have:=h.length
 cases ds <;> cases xs <;> simp_all
theorem zr{K:PySem.W.Frag}{B:List Addr}{H:Hp}{d:D}{v:V}{b:Bool}(r:Rep K B H d v)(h:o4 d= .ok b):CM K v H b:=by
 cases d with
 | cK=>unfold Rep at r;subst r;cases h;exact rfl
 | bl k=>unfold Rep at r;subst r;cases h;exact rfl
 | int i=>unfold Rep at r;subst r;cases h;exact rfl
 | str x=>unfold Rep at r;subst r;obtain⟨h1,h2⟩:=R.bf h;cases h2;exact⟨of_decide_eq_true h1,rfl⟩
 | lst ds=>unfold Rep at r;obtain⟨a,xs,rfl,l,r⟩:=r;cases h;exact .inl ⟨xs,l.sq,by rw[r.isEmpty]⟩
 | tup ds=>unfold Rep at r;obtain⟨a,xs,rfl,l,r⟩:=r;cases h;exact .inr (.inl ⟨xs,l.sq,by rw[r.isEmpty]⟩)
 | dct _ _=>cases h
theorem FN{a:Expr}{f:FD}(ha:PD X a f)(he:∀whole,isTrue a X.env whole=(do let v ←whole;standAt a.pos;holding [v] (truthy v)):=by intro _;rfl):PB X a (lu f):=
 (uV ha he).imp fun σ H Q ⟨Z,B,δ,b,E,hf,q⟩=>by
   obtain⟨d,h1,h2⟩:=R.aj hf
   exact⟨Z,B,δ,d,E,h1,fun v H' s r=>⟨b,zr r h2,q H' s⟩⟩
noncomputable def om(f g:aw→R Bool):aw→R Bool:=fun δ=>(f δ).bind fun b=>if b then g δ else .ok false
noncomputable def vP(f g:aw→R Bool):aw→R Bool:=fun δ=>(f δ).bind fun b=>if b then .ok true else g δ
noncomputable def nA(f:aw→R Bool):aw→R Bool:=fun δ=>(f δ).bind fun b=> .ok (!b)
noncomputable def BP(X:Cx)(e:Expr)(f:aw→R Bool):Prop:=PW X e (ER X.K f)
theorem BP.pb{e:Expr}{f:aw→R Bool}(h:BP X e f):PB X e f:=PW.pt h
theorem AI{a:Expr}{f:aw→R Bool}{pos:Pos}(h:PB X a f):BP X (.BoolOp .And [a] pos) f:=xQ h
theorem B_{a:Expr}{f:aw→R Bool}{pos:Pos}(h:PB X a f):BP X (.BoolOp .Or [a] pos) f:=F_ h
theorem BV{a b:Expr}{rest:List Expr}{f g:aw→R Bool}{pos:Pos}(ha:PB X a f)(hb:BP X (.BoolOp .And (b ::rest) pos) g):BP X (.BoolOp .And (a ::b ::rest) pos) (om f g):=by
 intro wh pins s σ H Q I ⟨Z,B,δ,k,E,hf,q⟩
 refine BF ha hb wh pins s σ H Q I ?_
 obtain⟨c,h1,h2⟩:=R.aj hf
 refine⟨Z,B,δ,c,E,h1,fun H1 s1=>?_⟩
 cases c with
 | true=>rw [if_pos rfl] at h2 ⊢;exact⟨Z,B,δ,k,E.same s1,h2,fun H' s2=>q H' (s1.trans s2)⟩
 | false=>rw [if_neg (by decide)] at h2 ⊢;cases h2;exact q H1 s1
theorem FR{a b:Expr}{rest:List Expr}{f g:aw→R Bool}{pos:Pos}(ha:PB X a f)(hb:BP X (.BoolOp .Or (b ::rest) pos) g):BP X (.BoolOp .Or (a ::b ::rest) pos) (vP f g):=by
 intro wh pins s σ H Q I ⟨Z,B,δ,k,E,hf,q⟩
 refine Gu ha hb wh pins s σ H Q I ?_
 obtain⟨c,h1,h2⟩:=R.aj hf
 refine⟨Z,B,δ,c,E,h1,fun H1 s1=>?_⟩
 cases c with
 | true=>rw [if_pos rfl] at h2 ⊢;cases h2;exact q H1 s1
 | false=>rw [if_neg (by decide)] at h2 ⊢;exact⟨Z,B,δ,k,E.same s1,h2,fun H' s2=>q H' (s1.trans s2)⟩
theorem F7{a:Expr}{f:aw→R Bool}{pos:Pos}(ha:PB X a f):PB X (.UnaryOp .Not a pos) (nA f):=(AW ha).imp fun σ H Q ⟨Z,B,δ,k,E,hf,q⟩=>by
 obtain⟨c,h1,h2⟩:=R.aj hf
 cases h2
 exact⟨Z,B,δ,c,E,h1,fun H1 s1=>q H1 s1⟩
noncomputable def BK(f:FD):aw→R Bool:=fun δ=>(f δ).bind fun d=>match d with | .bl b=> .ok b | _=> .no
noncomputable def vE(f g:FD):FD:=fun δ=>(BK f δ).bind fun b=>if b then g δ else .ok (.bl false)
noncomputable def Ff(f g:FD):FD:=fun δ=>(BK f δ).bind fun b=>if b then .ok (.bl true) else g δ
noncomputable def wH(f:FD):FD:=fun δ=>(BK f δ).bind fun b=> .ok (.bl (!b))
noncomputable def xO(c:aw→R Bool)(f g:FD):FD:=fun δ=>(c δ).bind fun b=>if b then f δ else g δ
theorem Hf{c a b:Expr}{fc:aw→R Bool}{f g:FD}{pos:Pos}(hc:PB X c fc)(ha:PD X a f)(hb:PD X b g):PD X (.IfExp c a b pos) (xO fc f g):=(Ah hc ha hb).imp fun σ H Q ⟨Z,B,δ,k,E,hf,q⟩=>by
 obtain⟨c,h1,h2⟩:=R.aj hf
 refine⟨Z,B,δ,c,E,h1,fun H1 s1=>?_⟩
 cases c with
 | true=>rw [if_pos rfl] at h2 ⊢;exact⟨Z,B,δ,k,E.same s1,h2,fun v H' s2 r2=>q v H' (s1.trans s2) r2⟩
 | false=>rw [if_neg (by decide)] at h2 ⊢;exact⟨Z,B,δ,k,E.same s1,h2,fun v H' s2 r2=>q v H' (s1.trans s2) r2⟩
noncomputable def ft(X:Cx)(f:Value)(g:List D→R D):Prop:=
 ∀(pins:List (Addr × Obj)) (s:Shared) (σ:St) (H:Hp) (B:List Addr) (ds:List D) (d:D) (xs:List V) (us:List Value),Inv X pins σ H s→(∀a∈B,∃o,H a=some o)→Vals xs us→aC X.K B H ds xs→g ds= .ok d→
  wpAny (model X.prog X.w) X.A (call f us) (EP X pins σ fun z H'=>aS H H'∧Rep X.K B H' d z) X.xe s
noncomputable def aX(g:List D→R D)(fs:aw→R (List D)):FD:=fun δ=>(fs δ).bind g
theorem ft.r{f:Value}{g:List D→R D}(h:ft X f g):nQ X f (fun xs H Q=>∃B ds d,(∀a∈B,∃o,H a=some o)∧aC X.K B H ds xs∧g ds= .ok d∧∀z H',aS H H'→Rep X.K B H' d z→Q z H'):=by
 intro pins s σ H xs us Q I rx ⟨B,ds,d,hb,hr,hg,q⟩
 exact dR (h pins s σ H B ds d xs us I hb rx hr hg) fun z s' ⟨zv,H',I',r',s1,r1⟩=>⟨zv,H',I',r',q zv H' s1 r1⟩
theorem x6{K:PySem.W.Frag}{g:List D→R D}{fs:aw→R (List D)}{σ:St}{H:Hp}{Q:VK}(h:tD K (aX g fs) σ H Q) :
 JN K fs σ H fun vs H1=>∃B ds d,(∀a∈B,∃o,H1 a=some o)∧aC K B H1 ds vs∧g ds= .ok d∧∀z H',aS H1 H'→Rep K B H' d z→Q z H':=by
 obtain⟨Z,B,δ,d,E,hf,q⟩:=h
 obtain⟨ds,h1,h2⟩:=R.aj hf
 exact⟨Z,B,δ,ds,E,h1,fun vs H1 s1 r1=>⟨B,ds,d,(E.same s1).bs,r1,h2,fun z H' s2 r2=>q z H' (s1.trans s2) r2⟩⟩
theorem z0{g:List D→R D}{x:Str}{id:String}{p pos:Pos}{e:Expr}{es:List Expr}{fs:aw→R (List D)}(hc:ft X (.builtin id) g)(hg:Gl X x)(hm:X.mg x=none)(hv:bootBuiltins x=some (.builtin id))(ha:BI X (e ::es) fs)(hn:x≠"__name__":=by decide)(hdb:(x==("__debug__":Str))=false:=by decide)
 (he:starEach (e ::es) X.env=(false,eval e X.env) ::starEach es X.env:=by rfl) (hpl:(backTo pos (starEach es X.env)).any (·.1)=false:=by rfl):PD X (.Call (.Name x p) (e ::es) [] pos) (aX g fs):=
 (uv hc.r hg hm hv ha hn hdb he hpl).imp fun σ H Q h=>x6 h
theorem yQ{g:List D→R D}{x:Str}{T:String}{p pos:Pos}{e:Expr}{es:List Expr}{fs:aw→R (List D)}(hc:ft X (.type T) g)(hg:Gl X x)(hm:X.mg x=none)(hv:bootBuiltins x=some (.type T))(ha:BI X (e ::es) fs)(hn:x≠"__name__":=by decide)(hdb:(x==("__debug__":Str))=false:=by decide)
 (he:starEach (e ::es) X.env=(false,eval e X.env) ::starEach es X.env:=by rfl) (hpl:(backTo pos (starEach es X.env)).any (·.1)=false:=by rfl):PD X (.Call (.Name x p) (e ::es) [] pos) (aX g fs):=
 (mQ hc.r hg hm hv ha hn hdb he hpl).imp fun σ H Q h=>x6 h
noncomputable def AB(K:PySem.W.Frag)(n:Nat)(g:List D→R D):Sp:=fun vs H Q _=>vs.length=n∧∃B ds d,(∀a∈B,∃o,H a=some o)∧aC K B H ds vs∧g ds= .ok d∧∀z H',aS H H'→Rep K B H' d z→Q z H'
theorem BU{g:List D→R D}{k n:Nat}{f:Addr}{fd:FuncData}{ps:List Str}{x:Str}{p pos:Pos}{e:Expr}{es:List Expr}{fs:aw→R (List D)}
 (F:gM X.prog X.w X.K X.mg X.base qp k f fd ps (AB X.K n g)) (hr:dZ k X.A) (hg:Gl X x) (hm:X.mg x=some (.ref f)) (hk:PySem.W.keepIn X.K (.ref f)=true) (hb:Binds X.K fd ps []) (ha:BI X (e ::es) fs)
 (hn:∀δ ds,fs δ= .ok ds→ds.length=n) (hdb:(x==("__debug__":Str))=false:=by decide) (he:starEach (e ::es) X.env=(false,eval e X.env) ::starEach es X.env:=by rfl) (hpl:(backTo pos (starEach es X.env)).any (·.1)=false:=by rfl) :
 PD X (.Call (.Name x p) (e ::es) [] pos) (aX g fs):=
 (sI F hr hg hm hk hb .nil uk ha hdb he hpl).imp fun σ H Q ⟨Z,B,δ,d,E,hf,q⟩=>by
   obtain⟨ds,h1,h2⟩:=R.aj hf
   refine⟨Z,B,δ,ds,E,h1,fun vs H1 s1 r1=>?_⟩
   show AB X.K n g (vs++[]) H1 Q E0
   rw[List.append_nil]
   exact⟨by rw[←r1.length];exact hn δ ds h1,B,ds,d,(E.same s1).bs,r1,h2,fun z H' s2 r2=>q z H' (s1.trans s2) r2⟩
end
end L2
end
section
set_option maxRecDepth 100000
set_option maxHeartbeats 4000000
namespace L2
open PySem PySem.Spec PyProof.Rows
inductive Out where
 | nx (δ:aw) | rt (d:D)
noncomputable abbrev FS:=aw→R Out
structure Ev (Z B:List Addr) (H:Hp) (B':List Addr) (H':Hp):Prop where
 bo:dq B H B' H'
 zs:∀b o,H b=some o→b∈Z→H' b=some o∧b∈B'
theorem Ev.refl(Z B:List Addr)(H:Hp)(zb:∀a∈Z,a∈B):Ev Z B H B H:=⟨dq.refl B H,fun b o e z=>⟨e,zb b z⟩⟩
theorem Ev.trans{Z B B' B'':List Addr}{H H' H'':Hp}(a:Ev Z B H B' H')(b:Ev Z B' H' B'' H''):Ev Z B H B'' H'':=
 ⟨a.bo.trans b.bo,fun c o e z=>let⟨e1,_⟩:=a.zs c o e z;b.zs c o e1 z⟩
theorem Ev.same{Z B:List Addr}{H H':Hp}(zb:∀a∈Z,a∈B)(s:aS H H'):Ev Z B H B H':=⟨dq.same s,fun b o e z=>⟨s b o e,zb b z⟩⟩
noncomputable def xm(K:PySem.W.Frag)(Z B:List Addr)(H:Hp)(D:Ends):Out→Prop
 | .nx δ'=>∀σ' B' H',Ev Z B H B' H'→dU K Z B' H' σ' δ'→D.nx σ' H'
 | .rt d=>∀v B' H',Ev Z B H B' H'→(∀a∈Z,a∈B')→Rep K B' H' d v→D.rt v H'
theorem xm.ev{K:PySem.W.Frag}{Z B B1:List Addr}{H H1:Hp}{D:Ends}{o:Out}(q:xm K Z B H D o)(ev:Ev Z B H B1 H1):xm K Z B1 H1 D o:=by
 cases o with
 | nx δ'=>exact fun σ' B' H' ev' E'=>q σ' B' H' (ev.trans ev') E'
 | rt d=>exact fun v B' H' ev' z r=>q v B' H' (ev.trans ev') z r
noncomputable def sD(K:PySem.W.Frag)(F:FS):TS:=fun D σ H=>∃Z B δ o,dU K Z B H σ δ∧F δ= .ok o∧xm K Z B H D o
noncomputable abbrev Cb(X:Cx)(st:Stmt)(F:FS):Prop:=PS X st (sD X.K F)
noncomputable abbrev n6(X:Cx)(st:List Stmt)(F:FS):Prop:=sT X st (sD X.K F)
section
variable {X:Cx}
noncomputable def jU:FS:=fun δ=> .ok (.nx δ)
noncomputable def eV(F G:FS):FS:=fun δ=>(F δ).bind fun o=>match o with | .nx δ'=>G δ' | .rt d=> .ok (.rt d)
theorem CD:n6 X [] jU:=rO.imp fun D σ H ⟨Z,B,δ,o,E,hf,q⟩=>by
 cases hf
 exact q σ B H (Ev.refl Z B H E.zb) E
theorem EC{K:PySem.W.Frag}{F G:FS}{D:Ends}{σ:St}{H:Hp}(h:sD K (eV F G) D σ H):GN (sD K F) (sD K G) D σ H:=by
 obtain⟨Z,B,δ,o,E,hf,q⟩:=h
 obtain⟨o1,h1,h2⟩:=R.aj hf
 refine⟨Z,B,δ,o1,E,h1,?_⟩
 cases o1 with
 | nx δ1=>
   intro σ1 B1 H1 ev E1
   refine⟨Z,B1,δ1,o,E1,h2,?_⟩
   cases o with
   | nx δ2=>exact fun σ' B' H' ev' E'=>q σ' B' H' (ev.trans ev') E'
   | rt d=>exact fun v B' H' ev' z r=>q v B' H' (ev.trans ev') z r
 | rt d=>
   cases h2
   exact q
theorem Ae{st:Stmt}{rest:List Stmt}{F G:FS}(h1:Cb X st F)(h2:n6 X rest G):n6 X (st ::rest) (eV F G):=(pM h1 h2).imp fun D σ H h=>EC h
theorem Ci{st:Stmt}{F:FS}(h1:Cb X st F):n6 X [st] F:=sP h1
theorem dU.set{K:PySem.W.Frag}{Z B:List Addr}{H:Hp}{σ:St}{δ:aw}(E:dU K Z B H σ δ){i:Nat}{d:D}{v:V}(hi:i < σ.length)(r:Rep K B H d v):dU K Z B H (σ.set i (some v)) (δ.set i (.val d)) where
 len:=by rw[List.length_set,List.length_set];exact E.len
 bs:=E.bs
 zb:=E.zb
 val:=fun j d' e=>by
  by_cases h:i=j
  ·subst h
   rw[List.getElem?_set_self (by rw[E.len];exact hi)] at e
   cases e
   exact⟨v,List.getElem?_set_self hi,r⟩
  ·rw[List.getElem?_set_ne h] at e ⊢
   exact E.val j d' e
 bld:=fun j ds e=>by
  by_cases h:i=j
  ·subst h
   rw[List.getElem?_set_self (by rw[E.len];exact hi)] at e
   cases e
  ·rw[List.getElem?_set_ne h] at e ⊢
   exact E.bld j ds e
 dis:=fun j k a ds es e1 e2 e3 e4=>by
  by_cases h:i=j
  ·subst h
   rw[List.getElem?_set_self (by rw[E.len];exact hi)] at e1
   cases e1
  ·by_cases h':i=k
   ·subst h'
    rw[List.getElem?_set_self (by rw[E.len];exact hi)] at e2
    cases e2
   ·rw[List.getElem?_set_ne h] at e1 e3
    rw[List.getElem?_set_ne h'] at e2 e4
    exact E.dis j k a ds es e1 e2 e3 e4
theorem dU.setB{K:PySem.W.Frag}{Z B:List Addr}{H:Hp}{σ:St}{δ:aw}(E:dU K Z B H σ δ){i:Nat}{ds:List D}{a:Addr}{xs:List V}(hi:i < σ.length)(hB:a∈B)(hZ:a ∉ Z)(hH:H a=some (.lst xs))(r:aC K B H ds xs)
 (new:∀j es,j≠i→δ[j]? =some (.bld es)→σ[j]?≠some (some (.ref a))):dU K Z B H (σ.set i (some (.ref a))) (δ.set i (.bld ds)) where
 len:=by rw[List.length_set,List.length_set];exact E.len
 bs:=E.bs
 zb:=E.zb
 val:=fun j d' e=>by
  by_cases h:i=j
  ·subst h
   rw[List.getElem?_set_self (by rw[E.len];exact hi)] at e
   cases e
  ·rw[List.getElem?_set_ne h] at e ⊢
   exact E.val j d' e
 bld:=fun j es e=>by
  by_cases h:i=j
  ·subst h
   rw[List.getElem?_set_self (by rw[E.len];exact hi)] at e
   cases e
   exact⟨a,xs,List.getElem?_set_self hi,hB,hZ,hH,r⟩
  ·rw[List.getElem?_set_ne h] at e ⊢
   exact E.bld j es e
 dis:=fun j k b ds1 es1 e1 e2 e3 e4=>by
  by_cases h:i=j
  ·subst h
   by_cases h':i=k
   ·exact h'
   ·rw[List.getElem?_set_self hi] at e3
    cases e3
    rw[List.getElem?_set_ne h'] at e2 e4
    exact absurd e4 (new k es1 (Ne.symm h') e2)
  ·by_cases h':i=k
   ·subst h'
    rw[List.getElem?_set_self hi] at e4
    cases e4
    rw[List.getElem?_set_ne h] at e1 e3
    exact absurd e3 (new j ds1 (Ne.symm h) e1)
   ·rw[List.getElem?_set_ne h] at e1 e3
    rw[List.getElem?_set_ne h'] at e2 e4
    exact E.dis j k b ds1 es1 e1 e2 e3 e4
noncomputable def jE(i:Nat)(f:FD):FS:=fun δ=>(f δ).bind fun d=>R.bE (decide (i < δ.length)) (.ok (.nx (δ.set i (.val d))))
theorem Fd{K:PySem.W.Frag}{i:Nat}{f:FD}{D:Ends}{σ:St}{H:Hp}(h:sD K (jE i f) D σ H):yx (tD K f) (pJ i) D σ H:=by
 obtain⟨Z,B,δ,o,E,hf,q⟩:=h
 obtain⟨d,h1,h2⟩:=R.aj hf
 obtain⟨hi,h3⟩:=R.bf h2
 cases h3
 refine⟨Z,B,δ,d,E,h1,fun v H1 s1 r1=>?_⟩
 exact q _ B H1 (Ev.same E.zb s1) ((E.same s1).set (by rw[←E.len];exact of_decide_eq_true hi) r1)
theorem BS{i:Nat}{x:Str}{e:Expr}{f:FD}{pos pos':Pos}(hN:X.N.Nodup)(hi:X.N[i]? =some x)(hx:Loc X.env.scope x)(he:PD X e f)(hs:swapsWith e (some (.Name x pos')) pos.line X.env=pure false:=by rfl)(hf:X.fn x=true∨X.env.scope.names.lookup x=some .local:=by first | exact .inl rfl | exact .inr rfl | assumption) :
 Cb X (.Assign [.Name x pos'] e pos) (jE i f):=(vx hN hi hx he hs hf).imp fun D σ H h=>Fd h
noncomputable def nC(i:Nat)(f:aw→R (List D)):FS:=fun δ=>(f δ).bind fun ds=>R.bE (decide (i < δ.length)) (.ok (.nx (δ.set i (.bld ds))))
theorem F5{K:PySem.W.Frag}{i:Nat}{f:aw→R (List D)}{D:Ends}{σ:St}{H:Hp}(h:sD K (nC i f) D σ H):yx (tN K f) (pJ i) D σ H:=by
 obtain⟨Z,B,δ,o,E,hf,q⟩:=h
 obtain⟨ds,h1,h2⟩:=R.aj hf
 obtain⟨hi,h3⟩:=R.bf h2
 cases h3
 refine⟨Z,B,δ,ds,E,h1,fun a xs H1 s1 n e r=>?_⟩
 have E1:=E.same s1
 have aB:a ∉ B:=fun ha=>by obtain⟨o,ho⟩:=E.bs a ha;rw [n] at ho;cases ho
 have nZ:a ∉ Z:=fun ha=>aB (E.zb a ha)
 have p0:dq B H (a ::B) H1:=fun b o e' nb=>⟨s1 b o e',fun hb=>by
  rcases List.mem_cons.mp hb with z | z
  ·subst z;rw [n] at e';cases e'
  ·exact nb z⟩
 have E2:dU K Z (a ::B) H1 σ δ:={
  len:=E.len
  bs:=fun b hb=>by
   rcases List.mem_cons.mp hb with z | z
   ·subst z;exact⟨_,e⟩
   ·exact E1.bs b z
  zb:=fun b hb=>List.mem_cons_of_mem _ (E.zb b hb)
  val:=fun j d e=>let⟨v,q1,q2⟩:=E.val j d e;⟨v,q1,q2.bo p0⟩
  bld:=fun j es e=>let⟨b,ys,q1,q2,q3,q4,q5⟩:=E.bld j es e;⟨b,ys,q1,List.mem_cons_of_mem _ q2,q3,s1 b _ q4,q5.bo p0⟩
  dis:=E.dis}
 refine q _ (a ::B) H1 ⟨p0,fun b o e' hb=>⟨s1 b o e',List.mem_cons_of_mem _ (E.zb b hb)⟩⟩ (E2.setB (by rw[←E.len];exact of_decide_eq_true hi) List.mem_cons_self nZ e r fun j es hj ej hσ=>?_)
 obtain⟨b,ys,q1,_,_,q4,_⟩:=E.bld j es ej
 rw[hσ] at q1
 cases q1
 rw[n] at q4;cases q4
theorem Dg{i:Nat}{x:Str}{e:Expr}{f:aw→R (List D)}{pos pos':Pos}(hN:X.N.Nodup)(hi:X.N[i]? =some x)(hx:Loc X.env.scope x)(he:PN X e f)(hs:swapsWith e (some (.Name x pos')) pos.line X.env=pure false:=by rfl)(hf:X.fn x=true∨X.env.scope.names.lookup x=some .local:=by first | exact .inl rfl | exact .inr rfl | assumption) :
 Cb X (.Assign [.Name x pos'] e pos) (nC i f):=(vx hN hi hx he hs hf).imp fun D σ H h=>F5 h
theorem dU.grow{K:PySem.W.Frag}{Z B:List Addr}{H:Hp}{σ:St}{δ:aw}(E:dU K Z B H σ δ){i:Nat}{ds es:List D}{a:Addr}{xs ys:List V}(hd:δ[i]? =some (.bld ds))(hσ:σ[i]? =some (some (.ref a)))(hB:a∈B)(hH:H a=some (.lst xs))(r:aC K B H es ys) :
 dU K Z B (upd H a (.lst ys)) σ (δ.set i (.bld es))∧dq B H B (upd H a (.lst ys)):=by
 have p:dq B H B (upd H a (.lst ys)):=fun b o e nb=>⟨by rw[bc (fun(z:b=a)=>nb (by rw[z];exact hB))];exact e,nb⟩
 have hi:i < δ.length:=(List.getElem?_eq_some_iff.mp hd).1
 refine⟨{
  len:=by rw[List.length_set];exact E.len
  bs:=fun b hb=>by
   by_cases z:b=a
   ·subst z;exact⟨_,aQ⟩
   ·rw[bc z];exact E.bs b hb
  zb:=E.zb
  val:=fun j d e=>by
   by_cases h:i=j
   ·subst h;rw [List.getElem?_set_self hi] at e;cases e
   ·rw[List.getElem?_set_ne h] at e
    obtain⟨v,q1,q2⟩:=E.val j d e
    exact⟨v,q1,q2.bo p⟩
  bld:=fun j fs e=>by
   by_cases h:i=j
   ·subst h;rw [List.getElem?_set_self hi] at e;cases e
    obtain⟨b,zs,q1,q2,q3,_,_⟩:=E.bld i ds hd
    rw[hσ] at q1;cases q1
    exact⟨a,ys,hσ,hB,q3,aQ,r.bo p⟩
   ·rw[List.getElem?_set_ne h] at e
    obtain⟨b,zs,q1,q2,q3,q4,q5⟩:=E.bld j fs e
    have ne:b≠a:=fun z=>by subst z;exact h (E.dis i j b ds fs hd e hσ q1)
    exact⟨b,zs,q1,q2,q3,by rw[bc ne];exact q4,q5.bo p⟩
  dis:=fun j k b ds1 es1 e1 e2 e3 e4=>by
   have f1:∃fs,δ[j]? =some (.bld fs):=by
    by_cases h:i=j
    ·subst h;exact⟨ds,hd⟩
    ·rw[List.getElem?_set_ne h] at e1;exact⟨_,e1⟩
   have f2:∃fs,δ[k]? =some (.bld fs):=by
    by_cases h:i=k
    ·subst h;exact⟨ds,hd⟩
    ·rw[List.getElem?_set_ne h] at e2;exact⟨_,e2⟩
   obtain⟨_,f1⟩:=f1
   obtain⟨_,f2⟩:=f2
   exact E.dis j k b _ _ f1 f2 e3 e4},p⟩
theorem Ev.grow{Z B:List Addr}{H:Hp}{a:Addr}{o:HO}(zb:∀a∈Z,a∈B)(hZ:a ∉ Z)(p:dq B H B (upd H a o)):Ev Z B H B (upd H a o):=
 ⟨p,fun b u e hb=>⟨by rw[bc (fun(z:b=a)=>hZ (by rw[←z];exact hb))];exact e,zb b hb⟩⟩
noncomputable def i4(δ:aw)(i:Nat):R (List D):=match δ[i]? with | some (.bld ds)=> .ok ds | _=> .no
theorem Bt{δ:aw}{i:Nat}{ds:List D}(h:i4 δ i= .ok ds):δ[i]? =some (.bld ds):=by
 unfold i4 at h
 split at h
 ·rename_i q;cases h;exact q
 ·cases h
noncomputable def n5(i:Nat)(f:FD):FS:=fun δ=>(f δ).bind fun d=>(i4 δ i).bind fun ds=>R.bE (decide (ds.length < sizeLine)) (.ok (.nx (δ.set i (.bld (ds++[d])))))
theorem Dw{i:Nat}{x:Str}{e:Expr}{f:FD}{npos apos cpos pos:Pos}(hN:X.N[i]? =some x)(hv:BM X.env.scope x)(he:PD X e f)
 (hd:(x==("__debug__":Str))=false:=by decide) (hcd:(x==("__classdict__":Str))=false:=by decide)
 (hs:starEach [e] X.env=(false,eval e X.env) ::starEach [] X.env:=by rfl) (hline:(apos.endLine==cpos.line)=true:=by rfl)
 (hfew:((backTo cpos (starEach [e] X.env)).all (fun x=>!x.1) && (backToKw cpos (keywordEach [] X.env)).all (fun x=>x.1.isSome)
   && decide (([e]:List Expr).length+([]:List Keyword).length+(if([]:List Keyword).isEmpty then 0 else 1) < 30))=true:=by rfl)
 (hsw:swapsWith (.Call (.Attribute (.Name x npos) "append" apos) [e] [] cpos) none pos.line X.env=pure false:=by rfl)
 (hbase:attributeBase (.Name x npos) "append" X.env (eval (.Name x npos) X.env)=eval (.Name x npos) X.env:=by rfl) :
 Cb X (.Expr (.Call (.Attribute (.Name x npos) "append" apos) [e] [] cpos) pos) (n5 i f):=by
 refine(sg (xE (X:=X) PySem.F.plainAttrs_list PySem.F.slot_list_append PySem.F.type_list_append mX (ng hN hv hd hcd) (eT he gH hs) hbase hfew hline hs) hsw).imp fun D σ H ⟨Z,B,δ,o,E,hf,q⟩=>?_
 obtain⟨d,h1,h2⟩:=R.aj hf
 obtain⟨ds,h3,h4⟩:=R.aj h2
 obtain⟨hl,h5⟩:=R.bf h4
 cases h5
 have hb:=Bt h3
 obtain⟨a,xs,q1,q2,q3,q4,q5⟩:=E.bld i ds hb
 refine⟨.ref a,q1, .inl ⟨rfl,xs,kZ.of q4⟩,⟨Z,B,δ,d,E,h1,fun v H1 s1 r1=>?_⟩⟩
 have E1:=E.same s1
 refine⟨a,xs,v,rfl,rfl,s1 a _ q4,by rw[←q5.length];exact of_decide_eq_true hl,?_⟩
 obtain⟨E2,p2⟩:=E1.grow (es:=ds++[d]) (ys:=xs++[v]) hb q1 q2 (s1 a _ q4) ((q5.same s1).append (aC.cons r1 aC.nil))
 exact q σ B _ ((Ev.same E.zb s1).trans (Ev.grow E.zb q3 p2)) E2
noncomputable def vz(i:Nat)(f:aw→R (List D)):FS:=fun δ=>(f δ).bind fun es=>(i4 δ i).bind fun ds=>R.bE (decide (ds.length+es.length≤sizeLine)) (.ok (.nx (δ.set i (.bld (ds++es)))))
noncomputable def iE(i:Nat)(δ:aw):aw:=match δ[i]? with | some (.bld ds)=>δ.set i (.val (.lst ds)) | _=>δ
theorem dU.iE{K:PySem.W.Frag}{Z B:List Addr}{H:Hp}{σ:St}{δ:aw}(E:dU K Z B H σ δ)(i:Nat):∃B',Ev Z B H B' H∧dU K Z B' H σ (iE i δ):=by
 unfold L2.iE
 cases hd:δ[i]? with
 | none=>exact⟨B,Ev.refl Z B H E.zb,E⟩
 | some x=>
   cases x with
   | un=>exact⟨B,Ev.refl Z B H E.zb,E⟩
   | val d=>exact⟨B,Ev.refl Z B H E.zb,E⟩
   | bld ds=>
     obtain⟨a,xs,q1,q2,q3,q4,q5⟩:=E.bld i ds hd
     have hi:i < δ.length:=(List.getElem?_eq_some_iff.mp hd).1
     have p:dq B H (B.filter fun b=>decide (b≠a)) H:=fun b o e nb=>⟨e,fun hb=>nb (List.mem_filter.mp hb).1⟩
     have zb:∀b∈Z,b∈B.filter fun b=>decide (b≠a):=fun b hb=>List.mem_filter.mpr ⟨E.zb b hb,decide_eq_true fun z=>q3 (z▸hb)⟩
     refine⟨B.filter fun b=>decide (b≠a),⟨p,fun b o e hb=>⟨e,zb b hb⟩⟩,{
      len:=by rw[List.length_set];exact E.len
      bs:=fun b hb=>E.bs b (List.mem_filter.mp hb).1
      zb:=zb
      val:=fun j d e=>by
       by_cases h:i=j
       ·subst h;rw [List.getElem?_set_self hi] at e;cases e
        refine⟨.ref a,q1,?_⟩
        unfold Rep
        exact⟨a,xs,rfl, .inl ⟨fun hb=>by simpa using(List.mem_filter.mp hb).2, .inl q4⟩,q5.bo p⟩
       ·rw[List.getElem?_set_ne h] at e
        obtain⟨v,z1,z2⟩:=E.val j d e
        exact⟨v,z1,z2.bo p⟩
      bld:=fun j fs e=>by
       by_cases h:i=j
       ·subst h;rw [List.getElem?_set_self hi] at e;cases e
       ·rw[List.getElem?_set_ne h] at e
        obtain⟨b,zs,z1,z2,z3,z4,z5⟩:=E.bld j fs e
        exact⟨b,zs,z1,List.mem_filter.mpr ⟨z2,decide_eq_true fun z=>by subst z;exact h (E.dis i j b ds fs hd e q1 z1)⟩,z3,z4,z5.bo p⟩
      dis:=fun j k b ds1 es1 e1 e2 e3 e4=>by
       by_cases h:i=j
       ·subst h;rw [List.getElem?_set_self hi] at e1;cases e1
       ·by_cases h':i=k
        ·subst h';rw [List.getElem?_set_self hi] at e2;cases e2
        ·rw[List.getElem?_set_ne h] at e1
         rw[List.getElem?_set_ne h'] at e2
         exact E.dis j k b ds1 es1 e1 e2 e3 e4}⟩
noncomputable def oP(i:Nat)(F:FS):FS:=fun δ=>F (iE i δ)
theorem EK{K:PySem.W.Frag}{i:Nat}{F:FS}{D:Ends}{σ:St}{H:Hp}(h:sD K (oP i F) D σ H):sD K F D σ H:=by
 obtain⟨Z,B,δ,o,E,hf,q⟩:=h
 obtain⟨B1,ev,E1⟩:=E.iE i
 refine⟨Z,B1,L2.iE i δ,o,E1,hf,?_⟩
 cases o with
 | nx δ'=>exact fun σ' B' H' ev' E'=>q σ' B' H' (ev.trans ev') E'
 | rt d=>exact fun v B' H' ev' z r=>q v B' H' (ev.trans ev') z r
theorem Cc(i:Nat){sts:List Stmt}{F:FS}(h:n6 X sts F):n6 X sts (oP i F):=h.imp fun D σ H h=>EK h
noncomputable def eY(f:FD):FS:=fun δ=>(f δ).bind fun d=> .ok (.rt d)
theorem B7{e:Expr}{f:FD}{pos:Pos}(he:PD X e f):Cb X (.Return (some e) pos) (eY f):=(BE he).imp fun D σ H ⟨Z,B,δ,o,E,hf,q⟩=>by
 obtain⟨d,h1,h2⟩:=R.aj hf
 cases h2
 exact⟨Z,B,δ,d,E,h1,fun v H1 s1 r1=>q v B H1 (Ev.same E.zb s1) E.zb r1⟩
noncomputable def qo(c:aw→R Bool)(F G:FS):FS:=fun δ=>(c δ).bind fun b=>if b then F δ else G δ
theorem Gf{c:Expr}{a b:List Stmt}{fc:aw→R Bool}{F G:FS}{pos:Pos}(hc:PB X c fc)(ha:n6 X a F)(hb:n6 X b G):Cb X (.If c a b pos) (qo fc F G):=(AE hc ha hb).imp fun D σ H ⟨Z,B,δ,o,E,hf,q⟩=>by
 obtain⟨k,h1,h2⟩:=R.aj hf
 refine⟨Z,B,δ,k,E,h1,fun H1 s1=>?_⟩
 have q':=q.ev (Ev.same E.zb s1)
 cases k with
 | true=>rw [if_pos rfl] at h2;exact Al ⟨Z,B,δ,o,E.same s1,h2,q'⟩
 | false=>rw [if_neg (by decide)] at h2;exact z8 ⟨Z,B,δ,o,E.same s1,h2,q'⟩
noncomputable abbrev FT:=D→aw→R aw
noncomputable def gD(K:PySem.W.Frag)(t:FT):TG:=fun v σ H Q=>∃Z B δ d δ',dU K Z B H σ δ∧Rep K B H d v∧t d δ= .ok δ'∧∀σ' H',aS H H'→dU K Z B H' σ' δ'→σ'.length=σ.length→Q σ' H'
noncomputable abbrev Gm(X:Cx)(tg:Expr)(t:FT):Prop:=PG X tg (gD X.K t)
noncomputable def bb(i:Nat):FT:=fun d δ=>R.bE (decide (i < δ.length)) (.ok (δ.set i (.val d)))
theorem AK{i:Nat}{x:Str}{pos:Pos}(hN:X.N.Nodup)(hi:X.N[i]? =some x)(hx:Loc X.env.scope x)(hf:X.fn x=true∨X.env.scope.names.lookup x=some .local:=by first | exact .inl rfl | exact .inr rfl | assumption):Gm X (.Name x pos) (bb i):=
 (xM hN hi hx hf).imp fun v σ H Q ⟨Z,B,δ,d,δ',E,r,ht,q⟩=>by
   obtain⟨hi,h⟩:=R.bf ht
   cases h
   exact q _ H (aS.refl H) (E.set (by rw[←E.len];exact of_decide_eq_true hi) r) (List.length_set ..)
noncomputable abbrev Aa:=List D→aw→R aw
noncomputable def Lc(K:PySem.W.Frag)(t:Aa):AJ:=fun vs σ H Q=>∃Z B δ ds δ',dU K Z B H σ δ∧aC K B H ds vs∧t ds δ= .ok δ'∧∀σ' H',aS H H'→dU K Z B H' σ' δ'→σ'.length=σ.length→Q σ' H'
noncomputable abbrev zY(X:Cx)(ts:List Expr)(t:Aa):Prop:=Di X ts (Lc X.K t)
theorem Di.imp{X:Cx}{e:List Expr}{t t':AJ}(h:Di X e t)(w:∀v σ H Q,t' v σ H Q→t v σ H Q):Di X e t':=fun pins s σ H v u Q I r hq=>h pins s σ H v u Q I r (w v σ H Q hq)
noncomputable def gx:Aa:=fun ds δ=>match ds with | []=> .ok δ | _=> .no
noncomputable def cI(t:FT)(u:Aa):Aa:=fun ds δ=>match ds with | d ::r=>(t d δ).bind fun δ'=>u r δ' | []=> .no
theorem Bc:zY X [] gx:=wZ.imp fun vs σ H Q ⟨Z,B,δ,ds,δ',E,r,ht,q⟩=>by
 cases ds with
 | nil=>unfold aC at r;cases ht;exact⟨r,q σ H (aS.refl H) E rfl⟩
 | cons=>cases ht
theorem y_{e:Expr}{es:List Expr}{t:FT}{u:Aa}(h1:Gm X e t)(h2:zY X es u)(hs:(assignEach (e ::es) X.env).map (·.2)=assign e X.env ::(assignEach es X.env).map (·.2):=by rfl):zY X (e ::es) (cI t u):=
 (ua h1 h2 hs).imp fun vs σ H Q ⟨Z,B,δ,ds,δ',E,r,ht,q⟩=>by
   cases ds with
   | nil=>cases ht
   | cons d ds=>
     obtain⟨x,xs,rfl,r1,r2⟩:=r.bJ
     obtain⟨δ1,h1,h2⟩:=R.aj ht
     exact⟨x,xs,rfl,Z,B,δ,d,δ1,E,r1,h1,fun σ1 H1 s1 E1 l1=>⟨Z,B,δ1,ds,δ',E1,r2.same s1,h2,fun σ2 H2 s2 E2 l2=>q σ2 H2 (s1.trans s2) E2 (l2.trans l1)⟩⟩
noncomputable def gz(n:Nat)(t:Aa):FT:=fun d δ=>match d with | .tup ds=>R.bE (decide (ds.length=n)) (t ds δ) | _=> .no
theorem BZ{es:List Expr}{k:Nat}{t:Aa}{n:Nat}{pos:Pos}(hc:X.calm=true)(h:zY X es t)(hn:(assignEach es X.env).length=n:=by rfl)(hst:(assignEach es X.env).findIdx? (·.1)=none:=by rfl):Gm X (.Tuple es k pos) (gz n t):=
 (AS hc h hn hst).imp fun v σ H Q ⟨Z,B,δ,d,δ',E,r,ht,q⟩=>by
   cases d with
   | tup ds=>
     unfold Rep at r
     obtain⟨a,xs,rfl,l,r⟩:=r
     obtain⟨hl,h⟩:=R.bf ht
     exact⟨a,xs,rfl,l.sq,by rw[←r.length];exact of_decide_eq_true hl,Z,B,δ,ds,δ',E,r,h,q⟩
   | _=>cases ht
noncomputable def u9(f:FD)(t:FT):FS:=fun δ=>(f δ).bind fun d=>(t d δ).bind fun δ'=> .ok (.nx δ')
noncomputable def Ar(K:PySem.W.Frag)(B:List Addr)(H:Hp)(J:It)(ds:List D):Prop:=∀B' H',dq B H B' H'→(∀(i:Nat) (d:D),ds[i]? =some d→J.go i H'∧∀x H'',J.yld i H' x H''→(∀a∈B',∃o,H' a=some o)→aS H' H''∧Rep K B' H'' d x)∧J.stop ds.length H'
noncomputable def iD(K:PySem.W.Frag)(f:aw→R (List D)):TI:=fun σ H R=>∃Z B δ ds,dU K Z B H σ δ∧f δ= .ok ds∧∀J H1,aS H H1→Ar K B H1 J ds→R J H1
noncomputable abbrev Gp(X:Cx)(tg e:Expr)(f:aw→R (List D)):Prop:=PI X tg e (iD X.K f)
noncomputable def dz(f:FD):aw→R (List D):=fun δ=>(f δ).bind fun d=>match d with | .lst ds=> .ok ds | .tup ds=> .ok ds | _=> .no
theorem Cu{tg e:Expr}{f:FD}(h:PD X e f):Gp X tg e (dz f):=by
 intro pins s σ H RR I ⟨Z,B,δ,ds,E,hf,q⟩
 obtain⟨d,h1,h2⟩:=R.aj hf
 refine dR (h pins s σ H (fun v H1=>aS H H1∧Rep X.K B H1 d v) I ⟨Z,B,δ,d,E,h1,fun v H1 s1 r1=>⟨s1,r1⟩⟩) fun v s1 ⟨x,H1,I1,r1,ss,rr⟩=>?_
 cases d with
 | lst es=>
   cases h2
   unfold Rep at rr
   obtain⟨a,xs,rfl,l,rr⟩:=rr
   cases r1
   obtain⟨its,rv,p,hz⟩:=I1.list l.sq
   refine wpAny_pyIter_list p.isList ?_
   refine⟨s1.heap.objs.size,[s1.heap.objs.size],_,_,H1,rfl,I1.kept (t':=s1.toks) fun b o e=>Heap.get?_push_of_some _ e,qR a _,⟨_,Heap.get?_push_size _ rfl,rfl,rfl⟩,fun b hb=>?_,q _ H1 ss fun B' H' pr=>?_⟩
   ·have e:b=s1.heap.objs.size:=by simpa using hb
    subst e
    exact I1.ql (Nat.le_refl _) (I1.hok.fresh (Nat.le_refl _))
   ·have l':qd X.K B' H' a xs:=l.bo pr
    have rr':=rr.bo pr
    refine⟨fun i d hd=>?_,⟨xs,l'.sq,by rw[rr.length];exact Nat.le_refl _⟩⟩
    obtain⟨x,hx,rx⟩:=rr'.get hd
    exact⟨⟨xs,x,l'.sq,hx⟩,fun y H'' ⟨e1,e2⟩ _=>by
     subst e1
     have:=e2 xs l'.sq
     rw[hx] at this
     cases this
     exact⟨aS.refl _,rx⟩⟩
 | tup es=>
   cases h2
   unfold Rep at rr
   obtain⟨a,xs,rfl,l,rr⟩:=rr
   cases r1
   obtain⟨its,rv,p,hz⟩:=I1.tuple l.sq
   refine wpAny_pyIter_tuple (show s1.heap.IsTuple a its.toArray from p) ?_
   refine⟨s1.heap.objs.size,[s1.heap.objs.size],_,_,H1,rfl,I1.kept (t':=s1.toks) fun b o e=>Heap.get?_push_of_some _ e,vF a _,⟨_,Heap.get?_push_size _ rfl,rfl,rfl⟩,fun b hb=>?_,q _ H1 ss fun B' H' pr=>?_⟩
   ·have e:b=s1.heap.objs.size:=by simpa using hb
    subst e
    exact I1.ql (Nat.le_refl _) (I1.hok.fresh (Nat.le_refl _))
   ·have l':qZ X.K B' H' a xs:=l.elim (fun z=> .inl ⟨(pr.rd z.2 z.1).2,(pr.rd z.2 z.1).1⟩) .inr
    have rr':=rr.bo pr
    refine⟨fun i d hd=>?_,⟨xs,l'.sq,by rw[rr.length];exact Nat.le_refl _⟩⟩
    obtain⟨x,hx,rx⟩:=rr'.get hd
    exact⟨⟨xs,x,l'.sq,hx⟩,fun y H'' ⟨e1,e2⟩ _=>by
     subst e1
     have:=e2 xs l'.sq
     rw[hx] at this
     cases this
     exact⟨aS.refl _,rx⟩⟩
 | _=>cases h2
noncomputable def dS(lo:Int)(n:Nat):List D:=(List.range n).map fun(i:Nat)=>D.int (lo+i)
theorem Bq{K:PySem.W.Frag}{B:List Addr}{H:Hp}(lo:Int)(n:Nat):Ar K B H (GA lo n) (dS lo n):=fun B' H' _=>by
 refine⟨fun i d hd=>?_,?_⟩
 ·unfold dS at hd
  rw[List.getElem?_map] at hd
  cases e:(List.range n)[i]? with
  | none=>rw [e] at hd;cases hd
  | some j=>
    rw[e] at hd
    cases hd
    obtain⟨hi,ej⟩:=List.getElem?_eq_some_iff.mp e
    rw[List.getElem_range] at ej
    subst ej
    rw[List.length_range] at hi
    exact⟨hi,fun x H'' ⟨e1,e2⟩ _=>by subst e1 e2;exact⟨aS.refl _,by unfold Rep;rfl⟩⟩
 ·show n≤(dS lo n).length
  unfold dS
  rw[List.length_map,List.length_range]
  exact Nat.le_refl _
noncomputable def iZ(f:FD):aw→R (List D):=fun δ=>(f δ).bind fun d=>match d with | .int j=>R.bE (decide (-(2 ^ 62)≤j∧j < 2 ^ 62)) (.ok (dS 0 j.toNat)) | _=> .no
theorem vJ{tg a:Expr}{f:FD}{p pos:Pos}(h:PD X a f)(hg:Gl X "range")(hm:X.mg "range"=none)(hs:starEach [a] X.env=[(false,eval a X.env)]:=by rfl):Gp X tg (.Call (.Name "range" p) [a] [] pos) (iZ f):=
 (qE hg hm (eT h gH hs) hs).imp fun σ H RR ⟨Z,B,δ,ds,E,hf,q⟩=>by
   obtain⟨d,h1,h2⟩:=R.aj hf
   cases d with
   | int j=>
     obtain⟨hb,h3⟩:=R.bf h2
     cases h3
     have hb:=of_decide_eq_true hb
     refine⟨Z,B,δ, .int j,E,h1,fun v H1 s1 r1=>⟨j,?_,hb.1,hb.2,q _ H1 s1 (Bq 0 _)⟩⟩
     unfold Rep at r1
     rw[r1]
   | _=>cases h2
noncomputable def IW(f g:FD):aw→R (List D):=fun δ=>(f δ).bind fun d=>(g δ).bind fun e=>match d,e with
 | .int i, .int j=>R.bE (decide (-(2 ^ 62)≤i∧i < 2 ^ 62∧ -(2 ^ 62)≤j∧j < 2 ^ 62)) (.ok (dS i (j - i).toNat)) | _,_=> .no
noncomputable def nS(t:FT)(body:FS):List D→FS
 | [],δ=> .ok (.nx δ)
 | d ::ds,δ=>(t d δ).bind fun δ1=>(body δ1).bind fun o=>match o with | .nx δ2=>nS t body ds δ2 | .rt r=> .ok (.rt r)
noncomputable def si(it:aw→R (List D))(t:FT)(body:FS):FS:=fun δ=>(it δ).bind fun ds=>nS t body ds δ
theorem BY{tg iter:Expr}{body:List Stmt}{it:aw→R (List D)}{t:FT}{F:FS}{pos:Pos}(hp:PassesOwn (model X.prog X.w) X.A X.env X.xe)(hc:X.calm=true)(hi:Gp X tg iter it)(hg:Gm X tg t)(hb:n6 X body F)
 (hs:∀x,foldedSetIterable iter X.env x=pure x:=by intro _;rfl):Cb X (.For tg iter body [] pos) (si it t F):=(vO hp hc hi hg hb hs).imp fun D σ H ⟨Z,B,δ,o,E,hf,q⟩=>by
 obtain⟨ds,h1,h2⟩:=R.aj hf
 refine⟨Z,B,δ,ds,E,h1,fun J H1 s1 ir=>?_⟩
 refine⟨fun i m σ' H'=>m=ds.length - i∧i≤ds.length∧∃B' δ',Ev Z B H1 B' H'∧dU X.K Z B' H' σ' δ'∧nS t F (ds.drop i) δ'= .ok o,⟨ds.length,rfl,Nat.zero_le _,B,δ,Ev.refl Z B H1 E.zb,E.same s1,by simpa using h2⟩,?_⟩
 rintro i m σ' H' ⟨rfl,hi,B',δ',ev,E',hl⟩
 obtain⟨go,stop⟩:=ir B' H' ev.bo
 by_cases hlt:i < ds.length
 ·have hd:ds[i]? =some ds[i]:=List.getElem?_eq_getElem hlt
  have hdrop:ds.drop i=ds[i] ::ds.drop (i+1):=List.drop_eq_getElem_cons hlt
  rw[hdrop] at hl
  obtain⟨δ1,h3,h4⟩:=R.aj hl
  obtain⟨o1,h5,h6⟩:=R.aj h4
  obtain⟨g1,g2⟩:=go i _ hd
  refine .inr ⟨g1,fun σ2 H2=>∃B2 δ2,Ev Z B H1 B2 H2∧dU X.K Z B2 H2 σ2 δ2∧nS t F (ds.drop (i+1)) δ2= .ok o,fun σ2 H2 n=>⟨ds.length - (i+1),by omega,rfl,hlt,n⟩,fun x H'' y=>?_⟩
  obtain⟨ss,rr⟩:=g2 x H'' y E'.bs
  refine⟨Z,B',δ',ds[i],δ1,E'.same ss,rr,h3,fun σ2 H2 s2 E2 l2=>⟨Z,B',δ1,o1,E2,h5,?_⟩⟩
  have ev2:Ev Z B H1 B' H2:=ev.trans (Ev.same E'.zb (ss.trans s2))
  cases o1 with
  | nx δ2=>exact fun σ3 B3 H3 ev3 E3=>⟨B3,δ2,ev2.trans ev3,E3,h6⟩
  | rt d=>
    cases h6
    exact fun v B3 H3 ev3 z r=>q v B3 H3 ((Ev.same E.zb s1).trans (ev2.trans ev3)) z r
 ·have e:i=ds.length:=by omega
  subst e
  rw[List.drop_length] at hl
  cases hl
  exact .inl ⟨stop,q σ' B' H' ((Ev.same E.zb s1).trans ev) E'⟩
noncomputable def zG(c:aw→R Bool)(body:FS):Nat→FS
 | 0,_=> .no
 | n+1,δ=>(c δ).bind fun b=>if b then(body δ).bind fun o=>match o with | .nx δ2=>zG c body n δ2 | .rt r=> .ok (.rt r) else .ok (.nx δ)
noncomputable def Jd(n:Nat)(c:aw→R Bool)(body:FS):FS:=fun δ=>zG c body n δ
noncomputable def pZ(δ:aw)(i:Nat):Sl:=match δ[i]? with | some (.val d)=> .val d | _=> .un
noncomputable def pd(own:List Str)(kp:List Nat)(δ:aw):aw:=List.replicate own.length .un++kp.map (pZ δ)
noncomputable def me(t:FT)(c:aw→R Bool)(f:FD)(δ:aw):List D→R (List D)
 | []=> .ok []
 | d ::ds=>(t d δ).bind fun δ1=>(c δ1).bind fun b=>if b then(f δ1).bind fun y=>(me t c f δ ds).bind fun ys=> .ok (y ::ys) else me t c f δ ds
noncomputable def eK(it:aw→R (List D))(t:FT)(c:aw→R Bool)(f:FD)(own:List Str)(kp:List Nat):aw→R (List D):=fun δ=>(it δ).bind fun ds=>R.bE (decide (ds.length≤sizeLine)) (me t c f (pd own kp δ) ds)
theorem EN{K:PySem.W.Frag}{Z B B':List Addr}{H H':Hp}{σ:St}{δ:aw}{own:List Str}{kp:List Nat}(E:dU K Z B H σ δ)(p:dq B H B' H')(hB:∀a∈B',∃o,H' a=some o):dU K [] B' H' (dk own kp σ) (pd own kp δ) where
 len:=by unfold dk pd;simp
 bs:=hB
 zb:=fun a ha=>by cases ha
 val:=fun i d e=>by
  unfold pd at e
  unfold dk
  by_cases hi:i < own.length
  ·rw[List.getElem?_append_left (by simpa using hi),List.getElem?_replicate] at e
   split at e <;> cases e
  ·rw[List.getElem?_append_right (by simpa using hi),List.length_replicate,List.getElem?_map] at e ⊢
   cases q:kp[i - own.length]? with
   | none=>rw [q] at e;cases e
   | some j=>
     rw[q] at e
     have e:pZ δ j= .val d:=Option.some.inj e
     unfold pZ at e
     split at e
     ·rename_i d' ed
      cases e
      obtain⟨v,h1,h2⟩:=E.val j d ed
      exact⟨v,by simp [h1],h2.bo p⟩
     ·cases e
 bld:=fun i ds e=>by
  unfold pd at e
  by_cases hi:i < own.length
  ·rw[List.getElem?_append_left (by simpa using hi),List.getElem?_replicate] at e
   split at e <;> cases e
  ·rw[List.getElem?_append_right (by simpa using hi),List.length_replicate,List.getElem?_map] at e
   cases q:kp[i - own.length]? with
   | none=>rw [q] at e;cases e
   | some j=>
     rw[q] at e
     have e:pZ δ j= .bld ds:=Option.some.inj e
     unfold pZ at e
     split at e <;> cases e
 dis:=fun i j a ds es e=>by
  unfold pd at e
  by_cases hi:i < own.length
  ·rw[List.getElem?_append_left (by simpa using hi),List.getElem?_replicate] at e
   split at e <;> cases e
  ·rw[List.getElem?_append_right (by simpa using hi),List.length_replicate,List.getElem?_map] at e
   cases q:kp[i - own.length]? with
   | none=>rw [q] at e;cases e
   | some j=>
     rw[q] at e
     have e:pZ δ j= .bld ds:=Option.some.inj e
     unfold pZ at e
     split at e <;> cases e
theorem CP{K:PySem.W.Frag}{it:aw→R (List D)}{t:FT}{c:aw→R Bool}{f:FD}{own:List Str}{kp:List Nat}{σ:St}{H:Hp}{Q:VK}(h:tN K (eK it t c f own kp) σ H Q) :
 yb (iD K it) (gD K t) (ER K c) (tD K f) own kp σ H Q:=by
 obtain⟨Z,B,δ,ds,E,hf,q⟩:=h
 obtain⟨es,h1,h2⟩:=R.aj hf
 obtain⟨hl,h3⟩:=R.bf h2
 have hl:=of_decide_eq_true hl
 refine⟨Z,B,δ,es,E,h1,fun J H1 s1 ir Dd hD=>?_⟩
 have E1:=E.same s1
 have pD:dq B H1 (Dd ::B) (upd H1 Dd (.lst [])):=mw hD
 refine⟨fun i m ys H'=>m=es.length - i∧i≤es.length∧ys.length≤i∧H' Dd=some (.lst ys)∧aS H1 H'∧∃done rest,ds=done++rest∧aC K (Dd ::B) H' done ys∧me t c f (pd own kp δ) (es.drop i)= .ok rest,
  ⟨es.length,rfl,Nat.zero_le _,Nat.le_refl _,aQ,aP hD,[],ds,rfl,aC.nil,by simpa using h3⟩,?_⟩
 rintro i m ys H' ⟨rfl,hi,hy,hDl,ss,done,rest,rfl,rd,hc⟩
 have dB:Dd ∉ B:=fun hb=>by obtain⟨o,ho⟩:=E1.bs Dd hb;rw [hD] at ho;cases ho
 have p':dq B H1 (Dd ::B) H':=fun b o e nb=>⟨ss b o e,fun hb=>by
  rcases List.mem_cons.mp hb with z | z
  ·exact cx e hD z
  ·exact nb z⟩
 have hB':∀a∈Dd ::B,∃o,H' a=some o:=fun a ha=>by
  rcases List.mem_cons.mp ha with z | z
  ·subst z;exact⟨_,hDl⟩
  ·obtain⟨o,ho⟩:=E1.bs a z;exact⟨o,ss a o ho⟩
 obtain⟨go,stop⟩:=ir (Dd ::B) H' p'
 by_cases hlt:i < es.length
 ·have hd:es[i]? =some es[i]:=List.getElem?_eq_getElem hlt
  have hdrop:es.drop i=es[i] ::es.drop (i+1):=List.drop_eq_getElem_cons hlt
  rw[hdrop] at hc
  obtain⟨δ1,h4,h5⟩:=R.aj hc
  obtain⟨b,h6,h7⟩:=R.aj h5
  obtain⟨g1,g2⟩:=go i _ hd
  refine .inr ⟨g1,fun x H2 y=>?_⟩
  obtain⟨sy,ry⟩:=g2 x H2 y hB'
  have Ec:dU K [] (Dd ::B) H2 (dk own kp σ) (pd own kp δ):=EN E1 (p'.trans (dq.same sy)) fun a ha=>let⟨o,ho⟩:=hB' a ha;⟨o,sy a o ho⟩
  refine⟨[],Dd ::B,pd own kp δ,es[i],δ1,Ec,ry,h4,fun σ3 H3 s3 E3 _=>⟨[],Dd ::B,δ1,b,E3,h6,fun H4 s4=>?_⟩⟩
  have sAll:aS H' H4:=sy.trans (s3.trans s4)
  cases b with
  | true=>
    rw[if_pos rfl] at h7
    refine Al ?_
    obtain⟨yv,h8,h9⟩:=R.aj h7
    obtain⟨rs,h10,h11⟩:=R.aj h9
    cases h11
    refine⟨[],Dd ::B,δ1,yv,E3.same s4,h8,fun v H5 s5 r5=>?_⟩
    have s':aS H' H5:=sAll.trans s5
    have hD5:H5 Dd=some (.lst ys):=s' Dd _ hDl
    have pu:dq (Dd ::B) H5 (Dd ::B) (upd H5 Dd (.lst (ys++[v]))):=fun b o e nb=>⟨by rw[bc (fun(z:b=Dd)=>nb (by rw[z];exact List.mem_cons_self))];exact e,nb⟩
    refine⟨hD5,by omega,es.length - (i+1),by omega,rfl,hlt,by rw[List.length_append,List.length_singleton];omega,aQ,fun b o e=>?_,done++[yv],rs,by simp,((rd.same s').append (aC.cons r5 aC.nil)).bo pu,h10⟩
    rw[bc (cx e hD)]
    exact s' b o (ss b o e)
  | false=>
    rw[if_neg (by decide)] at h7
    refine z8 ?_
    exact⟨es.length - (i+1),by omega,rfl,hlt,by omega,sAll Dd _ hDl,ss.trans sAll,done,rest,rfl,rd.same sAll,h7⟩
 ·have e:i=es.length:=by omega
  subst e
  rw[List.drop_length] at hc
  cases hc
  rw[List.append_nil] at q
  exact .inl ⟨stop,q Dd ys H' (s1.trans ss) (s1.free hD) hDl rd⟩
theorem Dx{scope:Scope}{own:List Str}{kp:List Nat}{kn:List Str}{tg iter elt:Expr}{ifs:List Expr}{it:aw→R (List D)}{t:FT}{c:aw→R Bool}{f:FD}{pos:Pos}(hc:X.calm=true)(C:ck X scope own kp kn)(hi:Gp X tg iter it)
 (hg:∀fp s H,Gm (bC X scope (own++kn) fp s H) tg t) (hif:∀fp s H,m7 (bC X scope (own++kn) fp s H) ifs (ER X.K c)) (he:∀fp s H,PD (bC X scope (own++kn) fp s H) elt f)
 (hs:∀x,foldedSetIterable iter X.env x=pure x:=by intro _;rfl):PN X (.ListComp elt [⟨tg,iter,ifs,0⟩] scope pos) (eK it t c f own kp):=
 (xY hc C hi hg hif he hs).imp fun σ H Q h=>CP h
noncomputable def qh:aw→R Bool:=fun _=> .ok true
theorem Bh:m7 X [] (ER X.K qh):=fun pins s σ H Q I ⟨Z,B,δ,b,E,hf,q⟩=>tJ pins s σ H Q I (by cases hf;exact q H (aS.refl H))
theorem BX{e:Expr}{c:aw→R Bool}(h:PB X e c):m7 X [e] (ER X.K c):=tq h
end
noncomputable def cU(N:List Str)(ds:List D):aw:=ds.map .val++List.replicate (N.length - ds.length) .un
noncomputable def mW(N:List Str)(F:FS):List D→R D:=fun ds=>(F (cU N ds)).bind fun o=>match o with | .rt d=> .ok d | .nx _=> .ok .cK
theorem CJ{K:PySem.W.Frag}{B:List Addr}{H:Hp}{N:List Str}{ds:List D}{vs:List V}(hB:∀a∈B,∃o,H a=some o)(r:aC K B H ds vs):dU K B B H (start N vs) (cU N ds) where
 len:=by unfold start cU;simp [r.length]
 bs:=hB
 zb:=fun a ha=>ha
 val:=fun i d e=>by
  unfold cU at e
  unfold start
  by_cases hi:i < ds.length
  ·rw[List.getElem?_append_left (by simpa using hi),List.getElem?_map] at e
   cases q:ds[i]? with
   | none=>rw [q] at e;cases e
   | some d'=>
     rw[q] at e
     cases e
     obtain⟨x,h1,h2⟩:=r.get q
     exact⟨x,by rw[List.getElem?_append_left (by rw[List.length_map,←r.length];exact hi),List.getElem?_map,h1];rfl,h2⟩
  ·rw[List.getElem?_append_right (by simpa using hi),List.getElem?_replicate] at e
   split at e <;> cases e
 bld:=fun i es e=>by
  unfold cU at e
  by_cases hi:i < ds.length
  ·rw[List.getElem?_append_left (by simpa using hi),List.getElem?_map] at e
   cases q:ds[i]? with
   | none=>rw [q] at e;cases e
   | some d'=>rw [q] at e;cases e
  ·rw[List.getElem?_append_right (by simpa using hi),List.getElem?_replicate] at e
   split at e <;> cases e
 dis:=fun i j a es fs e=>by
  unfold cU at e
  by_cases hi:i < ds.length
  ·rw[List.getElem?_append_left (by simpa using hi),List.getElem?_map] at e
   cases q:ds[i]? with
   | none=>rw [q] at e;cases e
   | some d'=>rw [q] at e;cases e
  ·rw[List.getElem?_append_right (by simpa using hi),List.getElem?_replicate] at e
   split at e <;> cases e
theorem CO{P:Program}{w:World}{K:PySem.W.Frag}{mg:Str→Option Value}{base:Heap}{x qual:Str}{st:Stmt}{f:Addr}{fd:FuncData}{N ps:List Str}{k:Nat}{F:FS}(Fn:wR K x qual st f fd)(S:ba N ps (ag st))
 (hbody:∀(cdv:Value) (A:Around) (outer:List Env) (s:Shared) (H:Hp) (E:XK),dZ k (A.deeper (envOfC qual (ag st) s.heap.objs.size f cdv))→
   n6 (qc qp P w K mg base N qual (ag st) f cdv A outer s H E).B9 (ao st) F):gM P w K mg base qp (k+1) f fd ps (AB K ps.length (mW N F)):=by
 refine Fn.ok S (fun vs H Q E h=>h.1) (fun cdv A outer s H vs Q E hr h=>⟨_,hbody cdv A outer s H E hr,?_⟩)
 obtain⟨_,B,ds,d,hB,r,hg,q⟩:=h
 obtain⟨o,h1,h2⟩:=R.aj hg
 refine⟨B,B,cU N ds,o,CJ hB r,h1,?_⟩
 have sm:∀{B':List Addr} {H':Hp},Ev B B H B' H'→aS H H':=fun {B' H'} ev b u e=>by
  by_cases hb:b∈B
  ·exact(ev.zs b u e hb).1
  ·exact(ev.bo b u e hb).1
 cases o with
 | nx δ'=>
   cases h2
   exact fun σ' B' H' ev _=>q _ H' (sm ev) (by unfold Rep;rfl)
 | rt d'=>
   cases h2
   exact fun v B' H' ev z rr=>q v H' (sm ev) (rr.bo fun b o e nb=>⟨e,fun hb=>nb (z b hb)⟩)
end L2
end
section
set_option maxRecDepth 100000
set_option maxHeartbeats 4000000
namespace L2
open PySem PySem.Spec PyProof.Rows
theorem Rep.int{K:PySem.W.Frag}{B:List Addr}{H:Hp}{i:Int}{v:V}:Rep K B H (.int i) v↔v= .int i:=by unfold Rep;exact Iff.rfl
theorem Rep.bl{K:PySem.W.Frag}{B:List Addr}{H:Hp}{i:Bool}{v:V}:Rep K B H (.bl i) v↔v= .bl i:=by unfold Rep;exact Iff.rfl
theorem Rep.str{K:PySem.W.Frag}{B:List Addr}{H:Hp}{i:Str}{v:V}:Rep K B H (.str i) v↔v= .str i:=by unfold Rep;exact Iff.rfl
theorem Rep.cK{K:PySem.W.Frag}{B:List Addr}{H:Hp}{v:V}:Rep K B H .cK v↔v= .cK:=by unfold Rep;exact Iff.rfl
theorem Rep.lst{K:PySem.W.Frag}{B:List Addr}{H:Hp}{ds:List D}{v:V}:Rep K B H (.lst ds) v↔∃a xs,v= .ref a∧qd K B H a xs∧aC K B H ds xs:=by rw[Rep]
theorem Rep.tup{K:PySem.W.Frag}{B:List Addr}{H:Hp}{ds:List D}{v:V}:Rep K B H (.tup ds) v↔∃a xs,v= .ref a∧qZ K B H a xs∧aC K B H ds xs:=by rw[Rep]
section
variable {X:Cx}
theorem jB.of{f:Value→Value→Sem Value}{r:R2}{g:D→D→R D}(h:jT X f r)
 (w:∀(B:List Addr) (H:Hp) (da db d:D) (x y:V) (Q:VK),(∀a∈B,∃o,H a=some o)→Rep X.K B H da x→Rep X.K B H db y→g da db= .ok d→(∀z H',aS H H'→Rep X.K B H' d z→Q z H')→r x y H Q):jB X f g:=by
 intro pins s σ H B da db d x y v u I hb rx ry ra rb hg
 exact h pins s σ H x y v u _ I rx ry (w B H da db d x y _ hb ra rb hg fun z H' s1 r1=>⟨s1,r1⟩)
theorem ft.of{f:Value}{r:List V→Hp→VK→Prop}{g:List D→R D}(h:nQ X f r)
 (w:∀(B:List Addr) (H:Hp) (ds:List D) (d:D) (xs:List V) (Q:VK),(∀a∈B,∃o,H a=some o)→aC X.K B H ds xs→g ds= .ok d→(∀z H',aS H H'→Rep X.K B H' d z→Q z H')→r xs H Q):ft X f g:=by
 intro pins s σ H B ds d xs us I hb rx rs hg
 exact h pins s σ H xs us _ I rx (w B H ds d xs _ hb rs hg fun z H' s1 r1=>⟨s1,r1⟩)
noncomputable def uc(C:Int→Int→Bool)(g:Int→Int→Int):D→D→R D
 | .int i, .int j=>R.bE (C i j) (.ok (.int (g i j)))
 | _,_=> .no
theorem w_{f:Value→Value→Sem Value}{C:Int→Int→Bool}{Cp:Int→Int→Prop}{g:Int→Int→Int}(h:jT X f (rI Cp fun i j=> .int (g i j)))(hc:∀i j,C i j=true→Cp i j):jB X f (uc C g):=
 jB.of h fun B H da db d x y Q _ ra rb hg q=>by
  unfold uc at hg
  split at hg
  ·obtain⟨h1,h2⟩:=R.bf hg
   cases h2
   exact⟨_,_,Rep.int.mp ra,Rep.int.mp rb,hc _ _ h1,q _ H (aS.refl H) (Rep.int.mpr rfl)⟩
  ·cases hg
noncomputable def ny(g:Int→Int→Int):D→D→R D
 | .int i, .int j=> .ok (.int (g i j))
 | _,_=> .no
theorem rS{f:Value→Value→Sem Value}{g:Int→Int→Int}(h:jT X f (zX fun i j=> .int (g i j))):jB X f (ny g):=
 jB.of h fun B H da db d x y Q _ ra rb hg q=>by
  unfold ny at hg
  split at hg
  ·cases hg
   exact⟨_,_,Rep.int.mp ra,Rep.int.mp rb,q _ H (aS.refl H) (Rep.int.mpr rfl)⟩
  ·cases hg
noncomputable def yK(g:Int→Int→Bool):D→D→R D
 | .int i, .int j=> .ok (.bl (g i j))
 | _,_=> .no
theorem DC{f:Value→Value→Sem Value}{g:Int→Int→Bool}(h:jT X f (zX fun i j=> .bl (g i j))):jB X f (yK g):=
 jB.of h fun B H da db d x y Q _ ra rb hg q=>by
  unfold yK at hg
  split at hg
  ·cases hg
   exact⟨_,_,Rep.int.mp ra,Rep.int.mp rb,q _ H (aS.refl H) (Rep.bl.mpr rfl)⟩
  ·cases hg
noncomputable abbrev nq:D→D→R D:=ny fun i j=>i - j
theorem uD:jB X (binaryOp .Sub) nq:=rS Fi
noncomputable abbrev jR:D→D→R D:=uc (fun _ j=>decide (0 < j∧j < 1073741824)) fun i j=>i / j
theorem Az:jB X (binaryOp .FloorDiv) jR:=w_ Ca fun i j h=>(of_decide_eq_true h:0 < j∧j < 1073741824)
noncomputable abbrev jY:D→D→R D:=uc (fun _ j=>decide (0 < j)) fun i j=>i % j
theorem pI:jB X (binaryOp .Mod) jY:=w_ Fx fun i j h=>of_decide_eq_true h
noncomputable abbrev sr:D→D→R D:=uc (fun i j=>decide (0≤j∧j≤1000000∧i.natAbs < 2 ^ 64)) fun i j=>i ^ j.toNat
theorem GW:jB X (binaryOp .Pow) sr:=w_ EF fun i j h=>(of_decide_eq_true h:0≤j∧j≤1000000∧i.natAbs < 2 ^ 64)
noncomputable abbrev oj:D→D→R D:=uc (fun _ j=>decide (0≤j)) fun i j=>i / 2 ^ j.toNat
theorem GX:jB X (binaryOp .RShift) oj:=w_ EE fun i j h=>of_decide_eq_true h
noncomputable abbrev zk:D→D→R D:=ny fun i j=>Builtin.bitAnd i j
theorem uz:jB X (binaryOp .BitAnd) zk:=rS ED
noncomputable abbrev BL:D→D→R D:=ny fun i j=>Builtin.bitOr i j
theorem uR:jB X (binaryOp .BitOr) BL:=rS Hc
noncomputable abbrev zj:D→D→R D:=ny fun i j=>Builtin.bitXor i j
theorem ug:jB X (binaryOp .BitXor) zj:=rS E8
noncomputable abbrev Ew:D→D→R D:=yK fun i j=>decide (i < j)
noncomputable abbrev Fb:D→D→R D:=yK fun i j=>decide (i≤j)
noncomputable abbrev CW:D→D→R D:=yK fun i j=>decide (j < i)
theorem IJ:jB X (compareOp .Gt) CW:=DC HI
noncomputable abbrev C9:D→D→R D:=yK fun i j=>decide (j≤i)
theorem IZ:jB X (compareOp .GtE) C9:=DC Ha
theorem qd.rN{K:PySem.W.Frag}{B:List Addr}{H:Hp}{a:Addr}{xs:List V}(h:H a=some (.lst xs))(n:a ∉ B):qd K B H a xs:= .inl ⟨n, .inl h⟩
theorem Inv.D0{pins:List (Addr × Obj)}{σ:St}{H:Hp}{s:Shared}{a:Addr}{xs:List V}{B:List Addr}(I:Inv X pins σ H s)(h:qd X.K B H a xs):∃(its:List Value) (n:Nat),Vals xs its∧s.heap.get? a=some {cls:= .type "list",data:= .seq its.toArray n}∧xs.length≤sizeLine:=by
 rcases h with⟨_,h⟩ | ⟨its,n,hk,hz,r⟩
 ·obtain⟨z,its,n,r,e⟩:=h.ok I.hok
  exact⟨its,n,r,e,z⟩
 ·exact⟨its,n,r,I.xt a _ hk,hz⟩
theorem Dv:jT X (binaryOp .Add) (fun x y H Q=>∃B l b xs zs,x= .ref l∧y= .ref b∧qd X.K B H l xs∧qd X.K B H b zs∧xs.length+zs.length≤sizeLine∧∀p,H p=none→Q (.ref p) (upd H p (.lst (xs++zs)))):=by
 intro pins s σ H x y v u Q I rx ry h
 obtain⟨B,l,b,xs,zs,rfl,rfl,hH,hB,hz,q⟩:=h
 cases rx
 cases ry
 obtain⟨its,n,r,e,_⟩:=I.D0 hH
 obtain⟨its2,n2,r2,e2,_⟩:=I.D0 hB
 have l1:=r.length
 have l2:=r2.length
 refine PySem.P.add_list e e2 ?_ (by rw[List.size_toArray,List.size_toArray];omega)
 have ea:its.toArray++its2.toArray=(its++its2).toArray:=by simp
 rw[ea]
 exact⟨.ref _,_,I.Cm (t':=s.toks) (r.append r2) (by rw[List.length_append];omega),rfl,q _ I.fresh⟩
noncomputable def f7:D→D→R D
 | .int i, .int j=> .ok (.int (i+j))
 | .str a, .str b=>R.bE (decide (a.length+b.length≤sizeLine)) (.ok (.str (a++b)))
 | .lst a, .lst b=>R.bE (decide (a.length+b.length≤sizeLine)) (.ok (.lst (a++b)))
 | _,_=> .no
theorem hW:jB X (binaryOp .Add) f7:=by
 intro pins s σ H B da db d x y v u I hb rx ry ra rb hg
 unfold f7 at hg
 split at hg
 ·cases hg
  exact FH pins s σ H x y v u _ I rx ry ⟨_,_,Rep.int.mp ra,Rep.int.mp rb,aS.refl H,Rep.int.mpr rfl⟩
 ·obtain⟨h1,h2⟩:=R.bf hg
  cases h2
  exact we pins s σ H x y v u _ I rx ry ⟨_,_,Rep.str.mp ra,Rep.str.mp rb,of_decide_eq_true h1,aS.refl H,Rep.str.mpr rfl⟩
 ·obtain⟨h1,h2⟩:=R.bf hg
  cases h2
  obtain⟨a1,xs1,rfl,l1,r1⟩:=Rep.lst.mp ra
  obtain⟨a2,xs2,rfl,l2,r2⟩:=Rep.lst.mp rb
  refine Dv pins s σ H _ _ v u _ I rx ry ⟨B,a1,a2,xs1,xs2,rfl,rfl,l1,l2,by rw[←r1.length,←r2.length];exact of_decide_eq_true h1,fun p hp=>⟨aP hp,Rep.lst.mpr ⟨p,_,rfl, .rN aQ fun ha=>?_,(r1.append r2).same (aP hp)⟩⟩⟩
  obtain⟨o,ho⟩:=hb p ha
  rw[hp] at ho;cases ho
 ·cases hg
theorem Du:jT X (binaryOp .Mult) (fun x y H Q=>∃z n,x= .str z∧y= .int n∧MulOk z n∧Q (.str (Txt.mul z n)) H):=by
 intro pins s σ H x y v u Q I rx ry h
 obtain⟨z,n,rfl,rfl,hm,q⟩:=h
 obtain⟨t,rfl⟩:=rx
 obtain⟨t',rfl⟩:=ry
 exact SB.mul hm fun t2 k=>⟨.str _,H,I.tok _,⟨_,rfl⟩,q⟩
end
end L2
end
section
set_option maxRecDepth 100000
set_option maxHeartbeats 4000000
namespace L2
open PySem PySem.Spec PyProof.Rows
section
variable {X:Cx}
theorem mulOk_of{x:Str}{n:Int}(h1: -(2 ^ 63)≤n)(h2:n < 2 ^ 63)(h3:x.length*n.toNat≤sizeLine):MulOk x n:=by
 refine⟨by simp only[Bool.or_eq_false_iff,decide_eq_false_iff_not];omega,fun hn _=>?_,fun hn _=>?_⟩
 ·have hz:sizeLine=16777216:=sizeLine_eq
  have e:(n.toNat:Int)=n:=by omega
  have h4:(x.length:Int)*n≤16777216:=by
   have:((x.length*n.toNat:Nat):Int)≤((16777216:Nat):Int):=Int.ofNat_le.mpr (by omega)
   rw[Int.natCast_mul,e] at this
   exact this
  have:(x.length:Int)≤(2 ^ 63 - 1) / n:=(Int.le_ediv_iff_mul_le (by omega)).mpr (by omega)
  omega
 ·unfold Builtin.Str.tooLong;exact decide_eq_false (by omega)
noncomputable def lp:D→D→R D
 | .int i, .int j=>R.bE (decide ((-(2 ^ 64) < i∧i < 2 ^ 64)∨(-(2 ^ 64) < j∧j < 2 ^ 64))) (.ok (.int (i*j)))
 | .str x, .int n=>R.bE (decide (-(2 ^ 63)≤n∧n < 2 ^ 63∧x.length*n.toNat≤sizeLine)) (.ok (.str (Txt.mul x n)))
 | _,_=> .no
theorem q9:jB X (binaryOp .Mult) lp:=by
 intro pins s σ H B da db d x y v u I hb rx ry ra rb hg
 unfold lp at hg
 split at hg
 ·obtain⟨h1,h2⟩:=R.bf hg
  cases h2
  have h1:=of_decide_eq_true h1
  exact F9 pins s σ H x y v u _ I rx ry ⟨_,_,Rep.int.mp ra,Rep.int.mp rb,h1,aS.refl H,Rep.int.mpr rfl⟩
 ·obtain⟨h1,h2⟩:=R.bf hg
  cases h2
  have h1:=of_decide_eq_true h1
  exact Du pins s σ H x y v u _ I rx ry ⟨_,_,Rep.str.mp ra,Rep.int.mp rb,mulOk_of h1.1 h1.2.1 h1.2.2,aS.refl H,Rep.str.mpr rfl⟩
 ·cases hg
mutual
noncomputable def toPy:D→PyData
 | .cK=> .none
 | .bl b=> .bool b
 | .int i=> .int i
 | .str x=> .str x
 | .lst ds=> .list (jN ds)
 | .tup ds=> .tuple (jN ds)
 | .dct _ _=> .dict []
noncomputable def jN:List D→List PyData
 | []=>[]
 | d ::ds=>toPy d ::jN ds
end
mutual
noncomputable def eX:D→Bool
 | .dct _ _=>false
 | .lst ds=>iM ds
 | .tup ds=>iM ds
 | _=>true
noncomputable def iM:List D→Bool
 | []=>true
 | d ::ds=>eX d && iM ds
end
mutual
theorem Rep.reads{pins:List (Addr × Obj)}{σ:St}{H:Hp}{s:Shared}{B:List Addr}(I:Inv X pins σ H s):∀{d:D} {v:V} {u:Value},eX d=true→Rep X.K B H d v→RelV v u→∃as,Reads s.heap u (toPy d) as
 | .cK,v,u,_,r,q=>by rw[Rep.cK.mp r] at q;cases q;unfold toPy;exact⟨_, .none⟩
 | .bl b,v,u,_,r,q=>by rw[Rep.bl.mp r] at q;cases q;unfold toPy;exact⟨_, .bool b⟩
 | .int i,v,u,_,r,q=>by rw[Rep.int.mp r] at q;obtain⟨t,rfl⟩:=q;unfold toPy;exact⟨_, .int i t⟩
 | .str x,v,u,_,r,q=>by rw[Rep.str.mp r] at q;obtain⟨t,rfl⟩:=q;unfold toPy;exact⟨_, .str x t⟩
 | .lst ds,v,u,hp,r,q=>by
   obtain⟨a,xs,rfl,l,rs⟩:=Rep.lst.mp r
   cases q
   obtain⟨its,rv,⟨o,n,e,hc,hd,he⟩,_⟩:=I.list l.sq
   obtain⟨as,ra⟩:=aC.reads I (by unfold eX at hp;exact hp) rs rv
   unfold toPy
   exact⟨_, .list e hc he (by simpa using ra)⟩
 | .tup ds,v,u,hp,r,q=>by
   obtain⟨a,xs,rfl,l,rs⟩:=Rep.tup.mp r
   cases q
   obtain⟨its,rv,⟨o,e,hc,n,hd⟩,_⟩:=I.tuple l.sq
   obtain⟨as,ra⟩:=aC.reads I (by unfold eX at hp;exact hp) rs rv
   unfold toPy
   exact⟨_, .tuple e hc hd (by simpa using ra)⟩
 | .dct _ _,v,u,hp,r,q=>by unfold eX at hp;cases hp
theorem aC.reads{pins:List (Addr × Obj)}{σ:St}{H:Hp}{s:Shared}{B:List Addr}(I:Inv X pins σ H s):∀{ds:List D} {vs:List V} {us:List Value},iM ds=true→aC X.K B H ds vs→Vals vs us→∃as,ReadsAll s.heap us (jN ds) as
 | [],vs,us,_,r,q=>by unfold aC at r;subst r;cases q;unfold jN;exact⟨_, .nil⟩
 | d ::ds,vs,us,hp,r,q=>by
   obtain⟨x,xs,rfl,r1,r2⟩:=r.bJ
   cases q with
   | cons q1 q2=>
     unfold iM at hp
     obtain⟨h1,h2⟩:=Bool.and_eq_true_iff.mp hp
     obtain⟨as,a1⟩:=Rep.reads I h1 r1 q1
     obtain⟨bs,a2⟩:=aC.reads I h2 r2 q2
     unfold jN
     exact⟨_, .cons a1 a2⟩
end
noncomputable def BO:D→D→R Bool
 | .int i, .int j=> .ok (decide (i=j))
 | .str x, .str y=> .ok (decide (x=y))
 | .bl a, .bl b=> .ok (decide (a=b))
 | d,e=>R.bE (eX d && eX e && SeqAt.shaped (toPy d) && SeqAt.shaped (toPy e)) (.ok (PyData.eqv (toPy d) (toPy e)))
noncomputable def jl(d e:D):R D:=(BO d e).bind fun b=> .ok (.bl b)
noncomputable def sC(d e:D):R D:=(BO d e).bind fun b=> .ok (.bl (!b))
theorem ja(hu:X.A.units+64 < cLine):jB X (compareOp .Eq) jl:=by
 intro pins s σ H B da db d x y v u I hb rx ry ra rb hg
 obtain⟨b,h1,h2⟩:=R.aj hg
 cases h2
 unfold BO at h1
 split at h1
 ·cases h1
  rename_i i j
  have:=Ac pins s σ H x y v u (fun z H'=>aS H H'∧Rep X.K B H' (.bl (decide (i=j))) z) I rx ry
  rw[Rep.int.mp ra,Rep.int.mp rb] at this
  refine this ⟨rfl,aS.refl H,Rep.bl.mpr ?_⟩
  simp [V.int.injEq]
 ·cases h1
  rename_i i j
  have:=Ac pins s σ H x y v u (fun z H'=>aS H H'∧Rep X.K B H' (.bl (decide (i=j))) z) I rx ry
  rw[Rep.str.mp ra,Rep.str.mp rb] at this
  refine this ⟨rfl,aS.refl H,Rep.bl.mpr ?_⟩
  simp [V.str.injEq]
 ·cases h1
  rename_i i j
  have:=Ac pins s σ H x y v u (fun z H'=>aS H H'∧Rep X.K B H' (.bl (decide (i=j))) z) I rx ry
  rw[Rep.bl.mp ra,Rep.bl.mp rb] at this
  refine this ⟨rfl,aS.refl H,Rep.bl.mpr ?_⟩
  simp [V.bl.injEq]
 ·obtain⟨h3,h4⟩:=R.bf h1
  cases h4
  simp only[Bool.and_eq_true] at h3
  obtain⟨⟨⟨p1,p2⟩,s1⟩,s2⟩:=h3
  obtain⟨as,r1⟩:=ra.reads I p1 rx
  obtain⟨bs,r2⟩:=rb.reads I p2 ry
  exact eq_dataH r1 r2 s1 s2 hu ⟨.bl _,H,I,rfl,aS.refl H,Rep.bl.mpr rfl⟩
theorem Ab(hu:X.A.units+64 < cLine):jB X (compareOp .NotEq) sC:=by
 intro pins s σ H B da db d x y v u I hb rx ry ra rb hg
 obtain⟨b,h1,h2⟩:=R.aj hg
 cases h2
 unfold BO at h1
 split at h1
 ·cases h1
  rename_i i j
  have:=Bk pins s σ H x y v u (fun z H'=>aS H H'∧Rep X.K B H' (.bl (!decide (i=j))) z) I rx ry
  rw[Rep.int.mp ra,Rep.int.mp rb] at this
  refine this ⟨rfl,aS.refl H,Rep.bl.mpr ?_⟩
  simp [V.int.injEq]
 ·cases h1
  rename_i i j
  have:=Bk pins s σ H x y v u (fun z H'=>aS H H'∧Rep X.K B H' (.bl (!decide (i=j))) z) I rx ry
  rw[Rep.str.mp ra,Rep.str.mp rb] at this
  refine this ⟨rfl,aS.refl H,Rep.bl.mpr ?_⟩
  simp [V.str.injEq]
 ·cases h1
  rename_i i j
  have:=Bk pins s σ H x y v u (fun z H'=>aS H H'∧Rep X.K B H' (.bl (!decide (i=j))) z) I rx ry
  rw[Rep.bl.mp ra,Rep.bl.mp rb] at this
  refine this ⟨rfl,aS.refl H,Rep.bl.mpr ?_⟩
  simp [V.bl.injEq]
 ·obtain⟨h3,h4⟩:=R.bf h1
  cases h4
  simp only[Bool.and_eq_true] at h3
  obtain⟨⟨⟨p1,p2⟩,s1⟩,s2⟩:=h3
  obtain⟨as,r1⟩:=ra.reads I p1 rx
  obtain⟨bs,r2⟩:=rb.reads I p2 ry
  exact ne_dataH r1 r2 s1 s2 hu ⟨.bl _,H,I,rfl,aS.refl H,Rep.bl.mpr rfl⟩
noncomputable def strs?:List D→Option (List Str)
 | []=>some []
 | .str x ::ds=>(strs? ds).map (x ::·)
 | _ ::_=>none
theorem je{K:PySem.W.Frag}{B:List Addr}{H:Hp}:∀{ds:List D} {xs:List V} {ss:List Str},aC K B H ds xs→strs? ds=some ss→xs=ss.map V.str
 | [],xs,ss,r,h=>by unfold aC at r;subst r;cases h;rfl
 | d ::ds,xs,ss,r,h=>by
   obtain⟨x,r',rfl,r1,r2⟩:=r.bJ
   cases d with
   | str z=>
     unfold strs? at h
     cases e:strs? ds with
     | none=>rw [e] at h;cases h
     | some tt=>
       rw[e] at h
       cases h
       rw[Rep.str.mp r1,je r2 e]
       rfl
   | _=>cases h
noncomputable def ints?:List D→Option (List Int)
 | []=>some []
 | .int x ::ds=>(ints? ds).map (x ::·)
 | _ ::_=>none
theorem gc{K:PySem.W.Frag}{B:List Addr}{H:Hp}:∀{ds:List D} {xs:List V} {ss:List Int},aC K B H ds xs→ints? ds=some ss→xs=ss.map V.int
 | [],xs,ss,r,h=>by unfold aC at r;subst r;cases h;rfl
 | d ::ds,xs,ss,r,h=>by
   obtain⟨x,r',rfl,r1,r2⟩:=r.bJ
   cases d with
   | int z=>
     unfold ints? at h
     cases e:ints? ds with
     | none=>rw [e] at h;cases h
     | some tt=>
       rw[e] at h
       cases h
       rw[Rep.int.mp r1,gc r2 e]
       rfl
   | _=>cases h
noncomputable def inD(d e:D):R Bool:=match d,e with
 | .str x, .lst ds=>(match strs? ds with | some ss=> .ok (ss.contains x) | none=> .no)
 | .str x, .tup ds=>(match strs? ds with | some ss=> .ok (ss.contains x) | none=> .no)
 | .str x, .str y=> .ok (!(Builtin.Str.occurrences y x 0 y.length 1).isEmpty)
 | .int x, .lst ds=>(match ints? ds with | some ss=> .ok (ss.contains x) | none=> .no)
 | .int x, .tup ds=>(match ints? ds with | some ss=> .ok (ss.contains x) | none=> .no)
 | _,_=> .no
noncomputable def ue(d e:D):R D:=(inD d e).bind fun b=> .ok (.bl b)
noncomputable def fG(d e:D):R D:=(inD d e).bind fun b=> .ok (.bl (!b))
theorem pX(x:Str):∀ss:List Str,DM (.str x) (ss.map V.str)=ss.contains x
 | []=>rfl
 | y ::ss=>by
   unfold DM
   rw[List.map_cons,List.any_cons]
   have ih:=pX x ss
   unfold DM at ih
   rw[ih]
   show(y==x || ss.contains x)=_
   rw[List.contains_cons]
   congr 1
   exact Bool.eq_iff_iff.mpr ⟨fun h=>by simpa using(beq_iff_eq.mp h).symm,fun h=>by simpa using(beq_iff_eq.mp h).symm⟩
theorem pz(x:Int):∀ss:List Int,DM (.int x) (ss.map V.int)=ss.contains x
 | []=>rfl
 | y ::ss=>by
   unfold DM
   rw[List.map_cons,List.any_cons]
   have ih:=pz x ss
   unfold DM at ih
   rw[ih]
   show(y==x || ss.contains x)=_
   rw[List.contains_cons]
   congr 1
   exact Bool.eq_iff_iff.mpr ⟨fun h=>by simpa using(beq_iff_eq.mp h).symm,fun h=>by simpa using(beq_iff_eq.mp h).symm⟩
theorem rq(ss:List Int):(ss.map V.int).all jP=true:=by
 rw[List.all_map]
 simp [List.all_eq_true,jP]
theorem rp(ss:List Str):(ss.map V.str).all jP=true:=by
 rw[List.all_map]
 simp [List.all_eq_true,jP]
theorem An{neg:Bool}{op:CmpOp}{g:D→D→R D}(h1:jT X (compareOp op) (IG X.K neg))(h2:jT X (compareOp op) (fun x y H Q=>∃i j,x= .str i∧y= .str j∧Q (.bl (if neg then !(!(Builtin.Str.occurrences j i 0 j.length 1).isEmpty) else(!(Builtin.Str.occurrences j i 0 j.length 1).isEmpty))) H))
 (hg:∀d e r,g d e= .ok r→∃b,inD d e= .ok b∧r= .bl (if neg then !b else b)):jB X (compareOp op) g:=by
 intro pins s σ H B da db d x y v u I hb rx ry ra rb hg'
 obtain⟨b,hi,rfl⟩:=hg da db d hg'
 unfold inD at hi
 split at hi
 ·rename_i z ds
  split at hi
  ·rename_i ss e
   cases hi
   obtain⟨a,xs,rfl,l,rs⟩:=Rep.lst.mp rb
   refine h1 pins s σ H x _ v u _ I rx ry ⟨a,xs,rfl, .inl l.sq,by rw[Rep.str.mp ra];rfl,by rw[je rs e];exact rp _,aS.refl H,Rep.bl.mpr ?_⟩
   rw[je rs e,Rep.str.mp ra,pX]
  ·cases hi
 ·rename_i z ds
  split at hi
  ·rename_i ss e
   cases hi
   obtain⟨a,xs,rfl,l,rs⟩:=Rep.tup.mp rb
   refine h1 pins s σ H x _ v u _ I rx ry ⟨a,xs,rfl, .inr l.sq,by rw[Rep.str.mp ra];rfl,by rw[je rs e];exact rp _,aS.refl H,Rep.bl.mpr ?_⟩
   rw[je rs e,Rep.str.mp ra,pX]
  ·cases hi
 ·cases hi
  exact h2 pins s σ H x y v u _ I rx ry ⟨_,_,Rep.str.mp ra,Rep.str.mp rb,aS.refl H,Rep.bl.mpr rfl⟩
 ·rename_i z ds
  split at hi
  ·rename_i ss e
   cases hi
   obtain⟨a,xs,rfl,l,rs⟩:=Rep.lst.mp rb
   refine h1 pins s σ H x _ v u _ I rx ry ⟨a,xs,rfl, .inl l.sq,by rw[Rep.int.mp ra];rfl,by rw[gc rs e];exact rq _,aS.refl H,Rep.bl.mpr ?_⟩
   rw[gc rs e,Rep.int.mp ra,pz]
  ·cases hi
 ·rename_i z ds
  split at hi
  ·rename_i ss e
   cases hi
   obtain⟨a,xs,rfl,l,rs⟩:=Rep.tup.mp rb
   refine h1 pins s σ H x _ v u _ I rx ry ⟨a,xs,rfl, .inr l.sq,by rw[Rep.int.mp ra];rfl,by rw[gc rs e];exact rq _,aS.refl H,Rep.bl.mpr ?_⟩
   rw[gc rs e,Rep.int.mp ra,pz]
  ·cases hi
 ·cases hi
theorem EW:jB X (compareOp .In) ue:=An (neg:=false) yp y7 fun d e r h=>by
 obtain⟨b,h1,h2⟩:=R.aj h
 cases h2
 exact⟨b,h1,rfl⟩
theorem xf:jB X (compareOp .NotIn) fG:=An (neg:=true) sj rJ fun d e r h=>by
 obtain⟨b,h1,h2⟩:=R.aj h
 cases h2
 exact⟨b,h1,rfl⟩
noncomputable def c0(d e:D):R D:=match d,e with
 | .lst ds, .int i=>(match nK ds i with | some x=> .ok x | none=> .no)
 | .tup ds, .int i=>(match nK ds i with | some x=> .ok x | none=> .no)
 | .str x, .int i=>R.bE (decide (x.length≤sizeLine)) (match nK x.cps.toList i with | some c=> .ok (.str ⟨#[c]⟩) | none=> .no)
 | _,_=> .no
theorem ma{K:PySem.W.Frag}{B:List Addr}{H:Hp}{ds:List D}{xs:List V}{i:Int}{d:D}(r:aC K B H ds xs)(h:nK ds i=some d):∃x,nK xs i=some x∧Rep K B H d x:=by
 unfold nK at h ⊢
 rw[←r.length]
 cases e:pF ds.length i with
 | none=>rw [e] at h;cases h
 | some j=>
   rw[e] at h
   exact r.get h
theorem Hz{a b:Expr}{fa fb:FD}{pos:Pos}(ha:PD X a fa)(hb:PD X b fb)(hs:oz b):PD X (.Subscript a b pos) (e2 c0 fa fb):=by
 refine(DH (r:=IL X.K) zK ha hb hs).imp fun σ H Q ⟨Z,B,δ,d,E,hf,q⟩=>?_
 obtain⟨d1,h1,h2⟩:=R.aj hf
 obtain⟨d2,h3,h4⟩:=R.aj h2
 refine⟨Z,B,δ,d1,E,h1,fun v1 H1 s1 r1=>⟨Z,B,δ,d2,E.same s1,h3,fun v2 H2 s2 r2=>?_⟩⟩
 have r1':=r1.same s2
 unfold c0 at h4
 split at h4
 ·split at h4
  ·rename_i e
   cases h4
   obtain⟨p,xs,rfl,l,rs⟩:=Rep.lst.mp r1'
   obtain⟨y,e1,e2⟩:=ma rs e
   exact .inl ⟨p,xs,_,y,rfl,Rep.int.mp r2,l.sq,e1,q y H2 (s1.trans s2) e2⟩
  ·cases h4
 ·split at h4
  ·rename_i e
   cases h4
   obtain⟨p,xs,rfl,l,rs⟩:=Rep.tup.mp r1'
   obtain⟨y,e1,e2⟩:=ma rs e
   exact .inr (.inl ⟨p,xs,_,y,rfl,Rep.int.mp r2,l.sq,e1,q y H2 (s1.trans s2) e2⟩)
  ·cases h4
 ·obtain⟨hl,h5⟩:=R.bf h4
  split at h5
  ·rename_i e
   cases h5
   exact .inr (.inr ⟨_,_,_,Rep.str.mp r1',Rep.int.mp r2,of_decide_eq_true hl,e,q _ H2 (s1.trans s2) (Rep.str.mpr rfl)⟩)
  ·cases h5
 ·cases h4
noncomputable abbrev FO:=aw→R (Option Int)
noncomputable def Kz(K:PySem.W.Frag)(f:FO):TO:=fun σ H Q=>∃Z B δ o,dU K Z B H σ δ∧f δ= .ok o∧∀H',aS H H'→Q o H'
theorem PO.imp{X:Cx}{e:Option Expr}{t t':TO}(h:PO X e t)(w:∀σ H Q,t' σ H Q→t σ H Q):PO X e t':=fun pins s σ H Q I hq=>h pins s σ H Q I (w σ H Q hq)
noncomputable abbrev PP(X:Cx)(e:Option Expr)(f:FO):Prop:=PO X e (Kz X.K f)
noncomputable def iz:FO:=fun _=> .ok none
noncomputable def gq(f:FD):FO:=fun δ=>(f δ).bind fun d=>match d with | .int i=> .ok (some i) | _=> .no
theorem CS:PP X none iz:=xH.imp fun σ H Q ⟨Z,B,δ,o,E,hf,q⟩=>by cases hf;exact q H (aS.refl H)
theorem Cr{e:Expr}{f:FD}(h:PD X e f):PP X (some e) (gq f):=(xk h).imp fun σ H Q ⟨Z,B,δ,o,E,hf,q⟩=>by
 obtain⟨d,h1,h2⟩:=R.aj hf
 cases d with
 | int i=>cases h2;exact⟨Z,B,δ, .int i,E,h1,fun v H1 s1 r1=>⟨i,Rep.int.mp r1,q H1 s1⟩⟩
 | _=>cases h2
theorem AA:DZ X (fun x lo hi H Q=>∃z,x= .str z∧z.length≤sizeLine∧Q (.str (Txt.slice z lo hi)) H):=by
 intro pins s σ H x v vl vu lo hi sl Q I rx hs pl pu h
 obtain⟨z,rfl,hz,q⟩:=h
 obtain⟨t,rfl⟩:=rx
 refine⟨"str",_,F.slot_str_getitem.lookup,typeIs_str _ _ _,?_⟩
 have fin:∀t' k,EP X pins σ Q (.str (Txt.slice z lo hi) t') {s with toks:=k}:=fun t' k=>⟨.str _,H,I.tok _,⟨_,rfl⟩,q⟩
 obtain⟨o,ho,hc,hd⟩:=hs
 cases pl with
 | none=>
   cases pu with
   | none=>exact wpAny_getItem_str_slice (l:=none) (u:=none) (st:=none) ⟨o,ho,hc,hd⟩ rfl (post_val_or_str ⟨Nat.le_trans (Txt.slice_le z _ _) hz,fin⟩)
   | int j u=>exact wpAny_getItem_str_slice (l:=none) (u:=some (j,u)) (st:=none) ⟨o,ho,hc,hd⟩ rfl (post_val_or_str ⟨Nat.le_trans (Txt.slice_le z _ _) hz,fin⟩)
 | int i t1=>
   cases pu with
   | none=>exact wpAny_getItem_str_slice (l:=some (i,t1)) (u:=none) (st:=none) ⟨o,ho,hc,hd⟩ rfl (post_val_or_str ⟨Nat.le_trans (Txt.slice_le z _ _) hz,fin⟩)
   | int j u=>exact wpAny_getItem_str_slice (l:=some (i,t1)) (u:=some (j,u)) (st:=none) ⟨o,ho,hc,hd⟩ rfl (post_val_or_str ⟨Nat.le_trans (Txt.slice_le z _ _) hz,fin⟩)
noncomputable def cutD{α:Type}(xs:List α)(lo hi:Option Int):List α:=(xs.drop (HT.fP xs.length 0 lo)).take (HT.fP xs.length xs.length hi - HT.fP xs.length 0 lo)
noncomputable def Hm(d:D)(lo hi:Option Int):R D:=match d with
 | .str x=>R.bE (decide (x.length≤sizeLine)) (.ok (.str (Txt.slice x lo hi)))
 | .lst ds=> .ok (.lst (cutD ds lo hi))
 | _=> .no
theorem uA{K:PySem.W.Frag}{B:List Addr}{H:Hp}{ds:List D}{xs:List V}(r:aC K B H ds xs)(lo hi:Option Int):aC K B H (cutD ds lo hi) (tM xs lo hi):=by
 unfold cutD tM
 rw[←r.length]
 exact(r.drop _).take _
noncomputable def wy(f:FD)(fl fh:FO):FD:=fun δ=>(f δ).bind fun d=>(fl δ).bind fun lo=>(fh δ).bind fun hi=>Hm d lo hi
theorem G6{e:Expr}{lo hi:Option Expr}{f:FD}{fl fh:FO}{p2 pos:Pos}(he:PD X e f)(hl:PP X lo fl)(hh:PP X hi fh):PD X (.Subscript e (.Slice lo hi none p2) pos) (wy f fl fh):=by
 refine(pN (AA.or xI) he hl hh).imp fun σ H Q ⟨Z,B,δ,d,E,hf,q⟩=>?_
 obtain⟨d1,h1,h2⟩:=R.aj hf
 obtain⟨l,h3,h4⟩:=R.aj h2
 obtain⟨h,h5,h6⟩:=R.aj h4
 refine⟨Z,B,δ,d1,E,h1,fun v1 H1 s1 r1=>⟨Z,B,δ,l,E.same s1,h3,fun H2 s2=>⟨Z,B,δ,h,(E.same s1).same s2,h5,fun H3 s3=>?_⟩⟩⟩
 have sA:aS H H3:=s1.trans (s2.trans s3)
 have r1':=r1.same (s2.trans s3)
 unfold Hm at h6
 split at h6
 ·obtain⟨hz,h7⟩:=R.bf h6
  cases h7
  exact .inl ⟨_,Rep.str.mp r1',of_decide_eq_true hz,q _ H3 sA (Rep.str.mpr rfl)⟩
 ·cases h6
  obtain⟨a,xs,rfl,ls,rs⟩:=Rep.lst.mp r1'
  refine .inr ⟨a,xs,rfl,ls.sq,fun p hp=>q _ _ (sA.trans (aP hp)) (Rep.lst.mpr ⟨p,_,rfl, .rN aQ fun ha=>?_,(uA rs l h).same (aP hp)⟩)⟩
  obtain⟨o,ho⟩:=(E.same sA).bs p ha
  rw[hp] at ho;cases ho
 ·cases h6
end
end L2
end
section
set_option maxRecDepth 100000
set_option maxHeartbeats 4000000
namespace L2
open PySem PySem.Spec PyProof.Rows
section
variable {X:Cx}
theorem aC.one{K:PySem.W.Frag}{B:List Addr}{H:Hp}{d:D}{xs:List V}(h:aC K B H [d] xs):∃x,xs=[x]∧Rep K B H d x:=by
 obtain⟨x,r,rfl,h1,h2⟩:=h.bJ
 unfold aC at h2
 subst h2
 exact⟨x,rfl,h1⟩
theorem aC.two{K:PySem.W.Frag}{B:List Addr}{H:Hp}{d e:D}{xs:List V}(h:aC K B H [d,e] xs):∃x y,xs=[x,y]∧Rep K B H d x∧Rep K B H e y:=by
 obtain⟨x,r,rfl,h1,h2⟩:=h.bJ
 obtain⟨y,rfl,h3⟩:=h2.one
 exact⟨x,y,rfl,h1,h3⟩
noncomputable def eP:List D→R D
 | [.str x]=>R.bE (decide (x.length≤sizeLine)) (.ok (.int x.length))
 | [.lst ds]=> .ok (.int ds.length)
 | [.tup ds]=> .ok (.int ds.length)
 | _=> .no
theorem e_:ft X (.builtin "len") eP:=ft.of Bo fun B H ds d xs Q _ rs hg q=>by
 unfold eP at hg
 split at hg
 ·obtain⟨h1,h2⟩:=R.bf hg
  cases h2
  obtain⟨x,rfl,r⟩:=rs.one
  exact⟨x,_,rfl,by rw[Rep.str.mp r];exact⟨of_decide_eq_true h1,rfl⟩,q _ H (aS.refl H) (Rep.int.mpr rfl)⟩
 ·cases hg
  obtain⟨x,rfl,r⟩:=rs.one
  obtain⟨a,ys,rfl,l,r⟩:=Rep.lst.mp r
  exact⟨_,_,rfl, .inl ⟨ys,l.sq,rfl⟩,q _ H (aS.refl H) (Rep.int.mpr (by rw[r.length]))⟩
 ·cases hg
  obtain⟨x,rfl,r⟩:=rs.one
  obtain⟨a,ys,rfl,l,r⟩:=Rep.tup.mp r
  exact⟨_,_,rfl, .inr ⟨ys,l.sq,rfl⟩,q _ H (aS.refl H) (Rep.int.mpr (by rw[r.length]))⟩
 ·cases hg
noncomputable def cInt:List D→R D
 | [.int i]=> .ok (.int i)
 | [.bl b]=> .ok (.int (if b then 1 else 0))
 | _=> .no
noncomputable def cStr:List D→R D
 | [.int i]=>R.bE (decide (i.natAbs.log2 < 1920)) (.ok (.str (toString i)))
 | _=> .no
noncomputable def qi:List D→R D
 | [.int i, .int j]=> .ok (.int (if j < i then j else i))
 | _=> .no
theorem HC(hc:X.calm=true):ft X (.builtin "min") qi:=ft.of (yP hc) fun B H ds d xs Q _ rs hg q=>by
 unfold qi at hg
 split at hg
 ·cases hg
  obtain⟨x,y,rfl,r1,r2⟩:=rs.two
  exact⟨_,_,by rw[Rep.int.mp r1,Rep.int.mp r2],q _ H (aS.refl H) (Rep.int.mpr rfl)⟩
 ·cases hg
noncomputable def Jm:List D→R D
 | [.int i, .int j]=> .ok (.int (if j > i then j else i))
 | _=> .no
noncomputable def fI:List D→R D
 | [.lst ds]=> .ok (.tup ds)
 | [.tup ds]=> .ok (.tup ds)
 | _=> .no
theorem mE:ft X (.type "tuple") fI:=ft.of qg fun B H ds d xs Q hb rs hg q=>by
 unfold fI at hg
 split at hg
 ·cases hg
  obtain⟨x,rfl,r⟩:=rs.one
  obtain⟨a,ys,rfl,l,r⟩:=Rep.lst.mp r
  refine⟨a,ys,rfl, .inl ⟨l.sq,fun p hp=>q _ _ (aP hp) (Rep.tup.mpr ⟨p,ys,rfl, .inl ⟨fun ha=>?_, .inl aQ⟩,r.same (aP hp)⟩)⟩⟩
  obtain⟨o,ho⟩:=hb p ha
  rw[hp] at ho;cases ho
 ·cases hg
  obtain⟨x,rfl,r⟩:=rs.one
  have r0:=r
  obtain⟨a,ys,rfl,l,r⟩:=Rep.tup.mp r
  exact⟨a,ys,rfl, .inr ⟨l.sq,q _ H (aS.refl H) r0⟩⟩
 ·cases hg
noncomputable def pY:List D→R D
 | [.lst ds]=> .ok (.lst ds)
 | [.tup ds]=> .ok (.lst ds)
 | _=> .no
noncomputable def cAbs:List D→R D
 | [.int i]=> .ok (.int (if i < 0 then -i else i))
 | _=> .no
noncomputable def KL:List D→R D
 | [.lst ds]=>(match ints? ds with | some ns=> .ok (.int ns.sum) | none=> .no)
 | _=> .no
theorem kW:∀{ns:List Int} {us:List Value},Vals (ns.map V.int) us→∃l:List (Int × Tok),us=l.map (fun p=>Value.int p.1 p.2)∧l.map (·.1)=ns
 | [],_, .nil=>⟨[],rfl,rfl⟩
 | n ::ns,_, .cons r t=>by
   obtain⟨l,rfl,e⟩:=kW t
   obtain⟨tk,rfl⟩:=r
   exact⟨(n,tk) ::l,rfl,by rw[List.map_cons,e]⟩
noncomputable def tyName:D→String
 | .cK=>"NoneType" | .bl _=>"bool" | .int _=>"int" | .str _=>"str" | .lst _=>"list" | .tup _=>"tuple" | .dct _ _=>"dict"
noncomputable def vZ(T:String)(f:FD):FD:=fun δ=>(f δ).bind fun d=>R.bE (tyName d==T && d.atom) (.ok (.bl true))
noncomputable def Lu(X:Cx)(id:String)(g:D→List D→R D):Prop:=
 ∀(pins:List (Addr × Obj)) (s:Shared) (σ:St) (H:Hp) (B:List Addr) (da d:D) (ds:List D) (x:V) (xs:List V) (v:Value) (us:List Value),Inv X pins σ H s→(∀a∈B,∃o,H a=some o)→RelV x v→Vals xs us→Rep X.K B H da x→aC X.K B H ds xs→g da ds= .ok d→
  wpAny (model X.prog X.w) X.A (call (.builtin id) (v ::us)) (EP X pins σ fun z H'=>aS H H'∧Rep X.K B H' d z) X.xe s
noncomputable def Es(T:String)(g:D→List D→R D)(f:FD)(fs:aw→R (List D)):FD:=fun δ=>(f δ).bind fun d=>R.bE (tyName d==T && (d.atom || T=="list")) ((fs δ).bind fun ds=>g d ds)
noncomputable def JW(d:D)(ds:List D):R D:=match d,ds with
 | .str sep,[.lst es]=>(match strs? es with | some ss=>R.bE (JoinOk sep ss) (.ok (.str (Str.join sep ss))) | none=> .no)
 | _,_=> .no
noncomputable abbrev PJ(X:Cx)(es:List Expr)(f:aw→R (List Str)):Prop:=
 ∀(pins:List (Addr × Obj)) (s:Shared) (σ:St) (H:Hp) (Z B:List Addr) (δ:aw) (acc:Str) (ss:List Str) (Q:VK),Inv X pins σ H s→dU X.K Z B H σ δ→f δ= .ok ss→(ss.foldl (·++·) acc).length≤sizeLine→(∀H',aS H H'→Q (.str (ss.foldl (·++·) acc)) H')→
  wpAny (model X.prog X.w) X.A (joinParts acc (evalEach es X.env)) (EP X pins σ Q) X.xe s
noncomputable def vQ:aw→R (List Str):=fun _=> .ok []
noncomputable def pQ(f:FD)(g:aw→R (List Str)):aw→R (List Str):=fun δ=>(f δ).bind fun d=>match d with | .str x=>(g δ).bind fun ss=> .ok (x ::ss) | _=> .no
noncomputable def jG(g:aw→R (List Str)):FD:=fun δ=>(g δ).bind fun ss=>R.bE (decide ((ss.foldl (·++·) Str.empty).length≤sizeLine)) (.ok (.str (ss.foldl (·++·) Str.empty)))
noncomputable def uJ:D→R D
 | .str x=>R.bE (decide (x.length≤sizeLine)) (.ok (.str x))
 | .int i=>R.bE (decide (i.natAbs.log2 < 1920)) (.ok (.str (toString i)))
 | _=> .no
noncomputable def wu(f:FD):FD:=fun δ=>(f δ).bind uJ
noncomputable def HH:List (D × D)→Str→R (Option D)
 | [],_=> .ok none
 | (.str y,d) ::r,x=>(HH r x).bind fun o=> .ok (match o with | some e=>some e | none=>if y=x then some d else none)
 | _ ::_,_=> .no
noncomputable def Hg(x:Str):List D:=x.cps.toList.map fun c=> .str ⟨#[c]⟩
noncomputable def Ls(x:Str):It:=⟨fun i _=>i < x.cps.size,fun i H v H'=>H'=H∧∃c,x.cps[i]? =some c∧v= .str ⟨#[c]⟩,fun i _=>x.cps.size≤i⟩
noncomputable def JT(f:FD):aw→R (List D):=fun δ=>(f δ).bind fun d=>match d with | .str x=> .ok (Hg x) | _=> .no
noncomputable def K4(K:PySem.W.Frag)(a:Addr):It:=
 ⟨fun i H=>∃xs x,kZ K H a xs∧xs[i]? =some x,fun i H v H'=>∃p x,H p=none∧v= .ref p∧(∀xs,kZ K H a xs→xs[i]? =some x)∧H'=upd H p (.tup [.int i,x]),fun i H=>∃xs,kZ K H a xs∧xs.length≤i⟩
theorem yF{P:Program}{w:World}{K:PySem.W.Frag}{elts:List Expr}{k:Nat}{pos:Pos}(a e it:Addr)(hei:e≠it):Turn P w K (.Tuple elts k pos) (K4 K a) [e,it] e (fun i h=>(∃old,IsEnum h e it ((i:Nat):Int) old)∧h.IsListIter it a i) where
 mem:=by simp
 obj:=fun i h st b hb=>by
  obtain⟨⟨old,he⟩,o,ho,c,d⟩:=st
  rcases List.mem_cons.mp hb with rfl | hb
  ·exact⟨_,he,fun v z=>by cases z⟩
  ·have e:b=it:=by simpa using hb
   subst e
   exact⟨o,ho,fun v z=>by rw[d] at z;cases z⟩
 keep:=fun i h h' st k=>by
  obtain⟨⟨old,he⟩,hi⟩:=st
  exact⟨⟨old,k e (by simp) _ he⟩,hi.at fun o x=>k it (by simp) o x⟩
 item:=by
  intro X hP hw hK hc i pins s σ H E I hf st hg
  subst hP hw hK
  obtain⟨xs,x,hq,hx⟩:=hg
  obtain⟨its,rv,p,hz⟩:=I.list hq
  obtain⟨u,hu,ru⟩:=rv.get hx
  obtain⟨⟨old,he⟩,hit⟩:=st
  obtain⟨f0,f1,f2,f3,f4,f5⟩:=hf e (by simp)
  obtain⟨g0,g1,g2,g3,g4,g5⟩:=hf it (by simp)
  refine wpAny_pyNext_enum_item he hit p.isList (x:=u) (by simpa using hu) hei fun h₁ heo hit₁ ht₁ hz₁ hk₁=>⟨_,rfl,?_⟩
  refine wpAny_letOwnedTupleGo_enum heo fun h₂ he₂ hs₂=>?_
  replace hs₂:Heap.SameBut e h₁ h₂:=hs₂
  have hel:e < s.heap.objs.size:=Heap.lt_size he
  have ht₂:h₂.get? s.heap.objs.size=some {cls:= .type "tuple",data:= .seq #[.int i s.toks,u]}:=(hs₂.2 _ (Nat.ne_of_gt hel)).trans ht₁
  have kk:∀b o,b≠e→b≠it→s.heap.get? b=some o→h₂.get? b=some o:=fun b o h1 h2 q=>(hs₂.2 b h1).trans (hk₁ b o h1 h2 q)
  have hn:H s.heap.objs.size=none:=I.fresh
  have sm:aS H (upd H s.heap.objs.size (.tup [.int i,x])):=aP hn
  have nit:∀b o,H b=some o→b≠e∧b≠it:=fun b o q=>⟨fun z=>(by rw[z,f0] at q;cases q),fun z=>(by rw[z,g0] at q;cases q)⟩
  have hok:k3 X.prog X.w (upd H s.heap.objs.size (.tup [.int i,x])) h₂:=fun b ob q=>by
   by_cases hb:b=s.heap.objs.size
   ·subst hb
    rw[aQ] at q
    cases q
    exact⟨by show 2≤sizeLine;decide,[.int i s.toks,u], .cons ⟨_,rfl⟩ (.cons ru .nil),⟨_,ht₂,rfl,_,rfl⟩⟩
   ·rw[bc hb] at q
    refine(I.hok b ob q).sH (fun c v hc z=>?_) (fun c z=>sm c _ z) fun c ys z=>sm c _ z
    rcases hc with rfl | hc
    ·exact kk c v (nit c _ q).1 (nit c _ q).2 z
    ·exact kk c v (nit c _ hc).1 (nit c _ hc).2 z
  have nch:∀b,b ∉ [e,it]→b≠e∧b≠it:=fun b hb=>⟨fun z=>hb (by simp [z]),fun z=>hb (by simp [z])⟩
  have I2:Inv X pins σ (upd H s.heap.objs.size (.tup [.int i,x])) {s with heap:=h₂,toks:=s.toks+1}:=by
   refine I.step (g':=s.gens) (d':=s.drawn) (ch:=[e,it]) (fun b hb=>?_) (fun b o _ _ hb q _=>kk b o (nch b hb).1 (nch b hb).2 q) (fun b o _ _ hb q _=>⟨o.slots,kk b o (nch b hb).1 (nch b hb).2 q⟩)
    (fun b o hb q n=>by rw[bc (Nat.ne_of_lt (Heap.lt_size q))];exact n) (fun b o hb q=>⟨o,kk b o (nch b hb).1 (nch b hb).2 q⟩) (fun b ys z=>sm b _ z) (fun b o u z=>sm b _ z) (fun b ps z=>⟨#[],by rw[sm b _ z];simp⟩) (fun m hm=>?_) hok I.bare
   ·rcases List.mem_cons.mp hb with rfl | hb
    ·exact⟨f3,f1,f4,f5⟩
    ·have z:b=it:=by simpa using hb
     subst z
     exact⟨g3,g1,g4,g5⟩
   ·obtain⟨o,es,ep,ho,r⟩:=hm
    exact⟨o,es,ep,kk _ o (Ne.symm f1) (Ne.symm g1) ho,r⟩
  refine⟨.ref s.heap.objs.size,_,I2,rfl,⟨s.heap.objs.size,x,hn,rfl,fun ys hy=>(by rw[I.l0 hy hq];exact hx),rfl⟩,⟨⟨_,by simpa using he₂⟩,hit₁.at fun o q=>(hs₂.2 it (Ne.symm hei)).trans q⟩,fun b hb=>?_⟩
  rcases List.mem_cons.mp hb with rfl | hb
  ·rw[bc (Nat.ne_of_lt hel)];exact f0
  ·have z:b=it:=by simpa using hb
   subst z
   obtain⟨o,ho,_⟩:=hit
   rw[bc (Nat.ne_of_lt (Heap.lt_size ho))];exact g0
 done:=by
  intro X hP hw hK hc i pins s σ H E I hf st hg
  subst hP hw hK
  obtain⟨xs,hq,hx⟩:=hg
  obtain⟨its,rv,p,hz⟩:=I.list hq
  obtain⟨⟨old,he⟩,hit⟩:=st
  obtain⟨g0,g1,g2,g3,g4,g5⟩:=hf it (by simp)
  have hl:=rv.length
  exact wpAny_pyNext_enum_end (I.ok.hd hc) he hit p.isList (by simp;omega) fun h' eb=>⟨rfl,I.turned (t':=s.toks) (fun b o hb q=>eb b o hb q) g0 g1 g3 g4 g5⟩
 self:=fun A i s Q E st h=>let⟨⟨_,he⟩,_⟩:=st;wpAny_pyIter_enum he h
noncomputable def cX(ds:List D):List D:=ds.zipIdx.map fun p=> .tup [.int p.2,p.1]
noncomputable def eL(f:FD):aw→R (List D):=fun δ=>(f δ).bind fun d=>match d with | .lst ds=> .ok (cX ds) | _=> .no
theorem uH{elts:List Expr}{k:Nat}{tpos:Pos}{a:Expr}{f:FD}{p pos:Pos}(h:PD X a f)(hg:Gl X "enumerate")(hm:X.mg "enumerate"=none)(hs:starEach [a] X.env=[(false,eval a X.env)]:=by rfl):Gp X (.Tuple elts k tpos) (.Call (.Name "enumerate" p) [a] [] pos) (eL f):=by
 intro pins s σ H RR I ⟨Z,B,δ,ds,E,hf,q⟩
 obtain⟨d,h1,h2⟩:=R.aj hf
 have hA:=eT h gH hs pos pins s σ H (fun vs H1=>aS H H1∧∃v,vs=[v]∧Rep X.K B H1 d v) I ⟨Z,B,δ,d,E,h1,fun v H1 s1 r1=>⟨s1,v,rfl,r1⟩⟩
 refine Call_ (lI I hg hm boot_enumerate (PyProof.Rows.callWith_type1 (dR hA fun us s1 ⟨vs,H1,I1,r1,ss,v,ev,rr⟩=>?_) hs rfl))
 subst ev
 obtain⟨u,rfl,ru⟩:=vals1 r1
 cases d with
 | lst es=>
   cases h2
   obtain⟨b,xs,rfl,l,rs⟩:=Rep.lst.mp rr
   cases ru
   obtain⟨its,n,rv,e1,hz⟩:=I1.D0 l
   refine call_enumerate_list (items:=its.toArray) ⟨_,e1,rfl,n,rfl⟩ fun h' he hit hsz kk=>wpAny_pyIter_enum he ?_
   have I2:Inv X pins σ H1 {s1 with heap:=h'}:=I1.kept (t':=s1.toks) kk
   refine⟨s1.heap.objs.size+1,[s1.heap.objs.size+1,s1.heap.objs.size],_,_,H1,rfl,I2,yF b (s1.heap.objs.size+1) s1.heap.objs.size (Nat.succ_ne_self _),⟨⟨_,he⟩,hit⟩,fun c hc=>?_,q _ H1 ss fun B' H' pr=>?_⟩
   ·have hle:s1.heap.objs.size≤c:=by
     rcases List.mem_cons.mp hc with z | hc
     ·rw[z];exact Nat.le_succ _
     ·have z:c=s1.heap.objs.size:=by simpa using hc
      rw[z];exact Nat.le_refl _
    exact I1.ql hle (I1.hok.fresh hle)
   ·have l':qd X.K B' H' b xs:=l.bo pr
    have rs':=rs.bo pr
    refine⟨fun i d hd=>?_,⟨xs,l'.sq,by rw[←rs.length];unfold cX;simp⟩⟩
    unfold cX at hd
    rw[List.getElem?_map,List.getElem?_zipIdx] at hd
    cases e:es[i]? with
    | none=>rw [e] at hd;cases hd
    | some d0=>
      rw[e] at hd
      have hd:D.tup [.int ((0+i:Nat):Int),d0]=d:=Option.some.inj hd
      rw[Nat.zero_add] at hd
      obtain⟨x,hx,rx⟩:=rs'.get e
      refine⟨⟨xs,x,l'.sq,hx⟩,fun v H'' y hB'=>?_⟩
      obtain⟨p,y,hp,rfl,hy,rfl⟩:=y
      refine⟨aP hp,?_⟩
      subst hd
      have hy2:=hy xs l'.sq
      rw[hx] at hy2
      cases hy2
      refine Rep.tup.mpr ⟨p,_,rfl, .inl ⟨fun ha=>?_, .inl aQ⟩,aC.cons (Rep.int.mpr rfl) (aC.cons (rx.same (aP hp)) aC.nil)⟩
      obtain⟨o,ho⟩:=hB' p ha
      rw[hp] at ho;cases ho
 | _=>cases h2
end
end L2
end
section
set_option maxRecDepth 100000
set_option maxHeartbeats 4000000
namespace L2
open PySem PySem.Spec PyProof.Rows
noncomputable def Def(K:PySem.W.Frag)(mg:Str→Option Value)(x:Str)(st:Stmt):Prop:=∃f fd,wR K x x st f fd∧mg x=some (.ref f)
noncomputable def Callee(P:Program)(w:World)(K:PySem.W.Frag)(mg:Str→Option Value)(base:Heap)(k:Nat)(x:Str)(n:Nat)(g:List D→R D):Prop:=
 ∃f fd ps,gM P w K mg base qp k f fd ps (AB K n g)∧mg x=some (.ref f)∧PySem.W.keepIn K (.ref f)=true∧Binds K fd ps []
theorem cA:∀(δ:aw) (ds:List D),aV δ= .ok ds→ds.length=0:=fun δ ds h=>by cases h;rfl
theorem a_{f:FD}{g:aw→R (List D)}{n:Nat}(h:∀(δ:aw) (ds:List D),g δ= .ok ds→ds.length=n):∀(δ:aw) (ds:List D),ay f g δ= .ok ds→ds.length=n+1:=fun δ ds e=>by
 obtain⟨d,h1,h2⟩:=R.aj e
 obtain⟨es,h3,h4⟩:=R.aj h2
 cases h4
 rw[List.length_cons,h δ es h3]
theorem A0{P:Program}{w:World}{K:PySem.W.Frag}{mg:Str→Option Value}{base:Heap}{x qual:Str}{st:Stmt}{f:Addr}{fd:FuncData}{N ps:List Str}{k:Nat}{F:FS}{b:List Stmt}{sc:Scope}(hb:ao st=b)(hs:ag st=sc)(Fn:wR K x qual st f fd)(S:ba N ps sc)
 (hbody:∀(cdv:Value) (A:Around) (outer:List Env) (s:Shared) (H:Hp) (E:XK),dZ k (A.deeper (envOfC qual sc s.heap.objs.size f cdv))→
   n6 (qc qp P w K mg base N qual sc f cdv A outer s H E).B9 b F):gM P w K mg base qp (k+1) f fd ps (AB K ps.length (mW N F)):=by
 subst hb hs
 exact CO Fn S hbody
section
variable {X:Cx}
theorem Ay{g:List D→R D}{k j n:Nat}{x:Str}{p pos:Pos}{e:Expr}{es:List Expr}{fs:aw→R (List D)}(C:Callee X.prog X.w X.K X.mg X.base k x n g)(hr:dZ j X.A)(hkj:k≤j)(hg:Gl X x)(ha:BI X (e ::es) fs)
 (hn:∀δ ds,fs δ= .ok ds→ds.length=n) (hdb:(x==("__debug__":Str))=false:=by decide) (he:starEach (e ::es) X.env=(false,eval e X.env) ::starEach es X.env:=by rfl) (hpl:(backTo pos (starEach es X.env)).any (·.1)=false:=by rfl) :
 PD X (.Call (.Name x p) (e ::es) [] pos) (aX g fs):=by
 obtain⟨f,fd,ps,F,hm,hk,hb⟩:=C
 exact BU F (hr.mono hkj) hg hm hk hb ha hn hdb he hpl
noncomputable def Hl(sc:Scope)(N:List Str)(scope:Scope)(kp:List Nat)(kn:List Str):Bool:=
 decide (scope.kind= .function) && scope.names.all (fun y=>decide (y.2≠ .cell)) && scope.names.all (fun y=>decide (y.2= .local→scope.names.lookup y.1=some .local))
  && scope.names.all (fun y=>decide (y.2= .free→(sc.names.lookup y.1=some .cell∨sc.names.lookup y.1=some .free))) && decide (kn.length=kp.length)
  && (List.range kp.length).all (fun j=>decide ((kp[j]?).bind (N[·]?)=kn[j]?)) && kn.all (fun x=>decide (scope.names.lookup x=some .free))
theorem ck.of{scope:Scope}{own:List Str}{kp:List Nat}{kn:List Str}{sc:Scope}{N:List Str}(h1:X.env.scope=sc)(h2:X.N=N)(h:Hl sc N scope kp kn=true):ck X scope own kp kn:=by
 unfold Hl at h
 simp only[Bool.and_eq_true,decide_eq_true_eq,List.all_eq_true] at h
 obtain⟨⟨⟨⟨⟨⟨a1,a2⟩,a3⟩,a4⟩,a5⟩,a6⟩,a7⟩:=h
 refine⟨a1,a2,a3,fun y hy hf=>?_,a5,fun j i x hj hx=>?_,a7⟩
 ·have:=a4 y hy hf
  unfold Env.kindOf
  rw[h1]
  exact this
 ·have hlt:j < kp.length:=(List.getElem?_eq_some_iff.mp hj).1
  have:=a6 j (List.mem_range.mpr hlt)
  rw[hj] at this
  rw[h2]
  exact this.trans hx
noncomputable def EU(kvs:List (Key × V))(f g:FD):FD:=fun δ=>(f δ).bind fun k=>(g δ).bind fun d=>match k with
 | .str x=>(match kC (iW [] kvs) (Sum.inr x) with | some (.int i)=> .ok (.int i) | none=> .ok d | _=> .no)
 | _=> .no
theorem Ea{keys:List (Option Expr)}{values:List Expr}{trs:List (TE × TE)}{dpos apos cpos:Pos}{e f:Expr}{fe ff:FD}{kvs:List (Key × V)}(hu:X.A.units+1 < cLine)(h:Gn X dpos keys values trs)(hall:keys.all (·.isSome)=true)(hl:keys.length=values.length)(h0:keys≠[])
 (hc:∀σ H Q,Q (kvs.map fun kv=>(kV kv.1,kv.2)) H→oS trs σ H Q) (hlen:kvs.length≤15) (he:PD X e fe) (hf:PD X f ff) (m:M2 X (.Dict keys values dpos) "get" apos e f cpos)
 (hd:PE X (.Dict keys values dpos) (Av trs)):PD X (.Call (.Attribute (.Dict keys values dpos) "get" apos) [e,f] [] cpos) (EU kvs fe ff):=by
 refine(Bi hu hd he hf m).imp fun σ H Q ⟨Z,B,δ,d,E,hfd,q⟩=>?_
 obtain⟨k,h1,h2⟩:=R.aj hfd
 obtain⟨dd,h3,h4⟩:=R.aj h2
 intro p hp
 refine hc σ _ _ ⟨aQ,kvs,rfl,hlen,p,rfl, .inl ⟨_, .inl aQ⟩,?_⟩
 rw[Ct]
 have s0:aS H (upd H p (.dK (iW [] kvs))):=aP hp
 refine⟨Z,B,δ,k,E.same s0,h1,fun v1 H1 s1 r1=>⟨Z,B,δ,dd,(E.same s0).same s1,h3,fun v2 H2 s2 r2=>?_⟩⟩
 have hH2:H2 p=some (.dK (iW [] kvs)):=s2 p _ (s1 p _ aQ)
 have sA:aS H H2:=s0.trans (s1.trans s2)
 split at h4
 ·rename_i x
  refine⟨kC (iW [] kvs) (Sum.inr x),?_,?_⟩
  ·rw[Rep.str.mp r1];exact qy.k (k:=Sum.inr x) hH2
  ·split at h4
   ·rename_i i e1
    cases h4
    rw[e1]
    exact q _ H2 sA (Rep.int.mpr rfl)
   ·rename_i e1
    cases h4
    rw[e1]
    exact q _ H2 sA r2
   ·cases h4
 ·cases h4
theorem vI:Iv X "list.extend" (fun x vs H Q=>∃l b xs zs,x= .ref l∧vs=[.ref b]∧H l=some (.lst xs)∧(∃B,qd X.K B H b zs)∧xs.length+zs.length≤sizeLine∧Q .cK (upd H l (.lst (xs++zs)))):=by
 intro pins s σ H x vs v us Q I rx rv h
 obtain⟨l,b,xs,zs,rfl,rfl,hH,⟨_,hB⟩,hz,q⟩:=h
 cases rx
 obtain⟨u,rfl,ru⟩:=rv.one
 cases ru
 obtain⟨z,its,n,r,hl,e⟩:=I.Dl hH
 obtain⟨its2,n2,r2,e2,z2⟩:=I.D0 hB
 have hl2:=r2.length
 have hsz:its.toArray.size+its2.toArray.size≤sizeLine:=by rw[List.size_toArray,List.size_toArray];omega
 have hlong:¬(!its.toArray.isEmpty && Builtin.List.listTooLong (its.toArray.size+its2.toArray.size))=true:=by
  rw[tW hsz,Bool.and_false]
  exact Bool.false_ne_true
 refine call_meets F.slot_list_extend ⟨_,e,rfl⟩ F.entry_list_extend (F.args_list_extend_2 _ _)
  (AutoSeq1.list_extend_list_list_0 l its.toArray n b its2.toArray n2 hlong (by rw[List.size_toArray];omega) (by omega)) ⟨e,e2,?_⟩
 refine⟨.cK,_,I.EL (its':=its++its2) hH e (by simp) (r.append r2) ?_,rfl,q⟩
 rw[List.length_append]
 omega
noncomputable def qb(i:Nat)(f:FD):FS:=fun δ=>(f δ).bind fun d=>match d with
 | .lst es=>(i4 δ i).bind fun ds=>R.bE (decide (ds.length+es.length≤sizeLine)) (.ok (.nx (δ.set i (.bld (ds++es)))))
 | _=> .no
end
end L2
end
section
set_option maxRecDepth 100000
set_option maxHeartbeats 4000000
namespace L2
open PySem PySem.Spec PyProof.Rows
structure QD (X:Cx) (e:Expr) (f:FD):Prop where
 h:PD X e f
structure QN (X:Cx) (e:Expr) (f:aw→R (List D)):Prop where
 h:PN X e f
structure QB (X:Cx) (e:Expr) (f:aw→R Bool):Prop where
 h:PB X e f
structure Ej (X:Cx) (e:Expr) (f:aw→R Bool):Prop where
 h:BP X e f
structure DO (X:Cx) (e:List Expr) (f:aw→R (List D)):Prop where
 h:BI X e f
structure DT (X:Cx) (e:Stmt) (f:FS):Prop where
 h:Cb X e f
structure qk (X:Cx) (e:List Stmt) (f:FS):Prop where
 h:n6 X e f
structure Gy (X:Cx) (e:Expr) (f:FT):Prop where
 h:Gm X e f
structure Dt (X:Cx) (e:List Expr) (f:Aa):Prop where
 h:zY X e f
structure xU (X:Cx) (tg e:Expr) (f:aw→R (List D)):Prop where
 h:Gp X tg e f
structure QP (X:Cx) (e:Option Expr) (f:FO):Prop where
 h:PP X e f
structure QJ (X:Cx) (e:List Expr) (f:aw→R (List Str)):Prop where
 h:PJ X e f
structure D_ (X:Cx) (e:List Expr) (c:aw→R Bool):Prop where
 h:m7 X e (ER X.K c)
section
variable {X:Cx}
theorem bV{e:Expr}{f:aw→R (List D)}(h:QN X e f):QD X e (eNew f):=⟨E5 h.1⟩
theorem aa(i:Nat){x:Str}{pos:Pos}(hN:X.N[i]? =some x:=by rfl)(hv:BM X.env.scope x:=by first | exact Or.inl rfl | exact Or.inr (Or.inl rfl) | exact Or.inr (Or.inr rfl))(hd:(x==("__debug__":Str))=false:=by decide)(hcd:(x==("__classdict__":Str))=false:=by decide):QD X (.Name x pos) (ah i):=⟨Fv i hN hv hd hcd⟩
theorem ak{i j pos}:QD X (.Constant (.int i) j pos) (eC (.int i)):=⟨Er⟩
theorem lG{b j pos}:QD X (.Constant (.bool b) j pos) (eC (.bl b)):=⟨G0⟩
theorem xS{j pos}:QD X (.Constant .none j pos) (eC .cK):=⟨Gd⟩
theorem bR{x j pos}:QD X (.Constant (.str x) j pos) (eC (.str x)):=⟨Eh⟩
theorem aq:DO X [] aV:=⟨Dz⟩
theorem af{e:Expr}{es:List Expr}{f:FD}{g:aw→R (List D)}(h:QD X e f)(t:DO X es g)(hs:starEach (e ::es) X.env=(false,eval e X.env) ::starEach es X.env:=by rfl):DO X (e ::es) (ay f g):=⟨Bl h.1 t.1 hs⟩
theorem cY{es:List Expr}{g:aw→R (List D)}{x1 pos}(h:DO X es g):QD X (.Tuple es x1 pos) (eW g):=⟨EY h.1⟩
theorem bO{es:List Expr}{g:aw→R (List D)}{pos}(h:DO X es g):QN X (.List es pos) (dN g):=⟨F8 h.1⟩
theorem aM{op:Operator}{g:D→D→R D}{a b:Expr}{fa fb:FD}{pos:Pos}(ho:jB X (binaryOp op) g)(ha:QD X a fa)(hb:QD X b fb):QD X (.BinOp a op b pos) (e2 g fa fb):=⟨GS ho ha.1 hb.1⟩
theorem C5{op:CmpOp}{g:D→D→R D}{a b:Expr}{fa fb:FD}{pos:Pos}(ho:jB X (compareOp op) g)(ha:QD X a fa)(hb:QD X b fb)(hm:behindInMarks op b=false):QD X (.Compare a [op] [b] pos) (e2 g fa fb):=⟨Fu ho ha.1 hb.1 hm⟩
theorem bB{op:CmpOp}{g:D→D→R D}{a b:Expr}{fa fb:FD}{pos:Pos}(ho:jB X (compareOp op) g)(ha:QD X a fa)(hb:QD X b fb)(hm:behindInMarks op b=false):QB X (.Compare a [op] [b] pos) (b2 g fa fb):=⟨F3 ho ha.1 hb.1 hm⟩
theorem rT{a:Expr}{f:FD}(ha:QD X a f)(he:∀whole,isTrue a X.env whole=(do let v ←whole;standAt a.pos;holding [v] (truthy v)):=by intro _;rfl):QB X a (lu f):=⟨FN ha.1 he⟩
theorem sL{e:Expr}{f:aw→R Bool}(h:Ej X e f):QB X e f:=⟨BP.pb h.1⟩
theorem zd{a:Expr}{f:aw→R Bool}{pos:Pos}(h:QB X a f):Ej X (.BoolOp .And [a] pos) f:=⟨AI h.1⟩
theorem um{a:Expr}{f:aw→R Bool}{pos:Pos}(h:QB X a f):Ej X (.BoolOp .Or [a] pos) f:=⟨B_ h.1⟩
theorem BC{a b:Expr}{rest:List Expr}{f g:aw→R Bool}{pos:Pos}(ha:QB X a f)(hb:Ej X (.BoolOp .And (b ::rest) pos) g):Ej X (.BoolOp .And (a ::b ::rest) pos) (om f g):=⟨BV ha.1 hb.1⟩
theorem xR{a b:Expr}{rest:List Expr}{f g:aw→R Bool}{pos:Pos}(ha:QB X a f)(hb:Ej X (.BoolOp .Or (b ::rest) pos) g):Ej X (.BoolOp .Or (a ::b ::rest) pos) (vP f g):=⟨FR ha.1 hb.1⟩
theorem wW{a:Expr}{f:aw→R Bool}{pos:Pos}(ha:QB X a f):QB X (.UnaryOp .Not a pos) (nA f):=⟨F7 ha.1⟩
theorem vV{c a b:Expr}{fc:aw→R Bool}{f g:FD}{pos:Pos}(hc:QB X c fc)(ha:QD X a f)(hb:QD X b g):QD X (.IfExp c a b pos) (xO fc f g):=⟨Hf hc.1 ha.1 hb.1⟩
theorem br{g:List D→R D}{x:Str}{id:String}{p pos:Pos}{e:Expr}{es:List Expr}{fs:aw→R (List D)}(hc:ft X (.builtin id) g)(hg:Gl X x)(hm:X.mg x=none)(hv:bootBuiltins x=some (.builtin id))(ha:DO X (e ::es) fs)(hn:x≠"__name__":=by decide)(hdb:(x==("__debug__":Str))=false:=by decide)(he:starEach (e ::es) X.env=(false,eval e X.env) ::starEach es X.env:=by rfl)(hpl:(backTo pos (starEach es X.env)).any (·.1)=false:=by rfl):QD X (.Call (.Name x p) (e ::es) [] pos) (aX g fs):=⟨z0 hc hg hm hv ha.1 hn hdb he hpl⟩
theorem jo{g:List D→R D}{x:Str}{T:String}{p pos:Pos}{e:Expr}{es:List Expr}{fs:aw→R (List D)}(hc:ft X (.type T) g)(hg:Gl X x)(hm:X.mg x=none)(hv:bootBuiltins x=some (.type T))(ha:DO X (e ::es) fs)(hn:x≠"__name__":=by decide)(hdb:(x==("__debug__":Str))=false:=by decide)(he:starEach (e ::es) X.env=(false,eval e X.env) ::starEach es X.env:=by rfl)(hpl:(backTo pos (starEach es X.env)).any (·.1)=false:=by rfl):QD X (.Call (.Name x p) (e ::es) [] pos) (aX g fs):=⟨yQ hc hg hm hv ha.1 hn hdb he hpl⟩
theorem gu:qk X [] jU:=⟨CD⟩
theorem bX{st:Stmt}{rest:List Stmt}{F G:FS}(h1:DT X st F)(h2:qk X rest G):qk X (st ::rest) (eV F G):=⟨Ae h1.1 h2.1⟩
theorem bx{st:Stmt}{F:FS}(h1:DT X st F):qk X [st] F:=⟨Ci h1.1⟩
theorem iA{i:Nat}{x:Str}{e:Expr}{f:FD}{pos pos':Pos}(hN:X.N.Nodup)(hi:X.N[i]? =some x)(hx:Loc X.env.scope x)(he:QD X e f)(hs:swapsWith e (some (.Name x pos')) pos.line X.env=pure false:=by rfl)(hf:X.fn x=true∨X.env.scope.names.lookup x=some .local:=by first | exact .inl rfl | exact .inr rfl | assumption):DT X (.Assign [.Name x pos'] e pos) (jE i f):=⟨BS hN hi hx he.1 hs hf⟩
theorem Bx{i:Nat}{x:Str}{e:Expr}{f:aw→R (List D)}{pos pos':Pos}(hN:X.N.Nodup)(hi:X.N[i]? =some x)(hx:Loc X.env.scope x)(he:QN X e f)(hs:swapsWith e (some (.Name x pos')) pos.line X.env=pure false:=by rfl)(hf:X.fn x=true∨X.env.scope.names.lookup x=some .local:=by first | exact .inl rfl | exact .inr rfl | assumption):DT X (.Assign [.Name x pos'] e pos) (nC i f):=⟨Dg hN hi hx he.1 hs hf⟩
theorem Bp{i:Nat}{x:Str}{e:Expr}{f:FD}{npos apos cpos pos:Pos}(hN:X.N[i]? =some x)(hv:BM X.env.scope x)(he:QD X e f)(hd:(x==("__debug__":Str))=false:=by decide)(hcd:(x==("__classdict__":Str))=false:=by decide)(hs:starEach [e] X.env=(false,eval e X.env) ::starEach [] X.env:=by rfl)(hline:(apos.endLine==cpos.line)=true:=by rfl)(hfew:((backTo cpos (starEach [e] X.env)).all (fun x=>!x.1) && (backToKw cpos (keywordEach [] X.env)).all (fun x=>x.1.isSome)
 && decide (([e]:List Expr).length+([]:List Keyword).length+(if([]:List Keyword).isEmpty then 0 else 1) < 30))=true:=by rfl) (hsw:swapsWith (.Call (.Attribute (.Name x npos) "append" apos) [e] [] cpos) none pos.line X.env=pure false:=by rfl) (hbase:attributeBase (.Name x npos) "append" X.env (eval (.Name x npos) X.env)=eval (.Name x npos) X.env:=by rfl):DT X (.Expr (.Call (.Attribute (.Name x npos) "append" apos) [e] [] cpos) pos) (n5 i f):=⟨Dw hN hv he.1 hd hcd hs hline hfew hsw hbase⟩
theorem zy(i:Nat){sts:List Stmt}{F:FS}(h:qk X sts F):qk X sts (oP i F):=⟨Cc i h.1⟩
theorem bZ{e:Expr}{f:FD}{pos:Pos}(he:QD X e f):DT X (.Return (some e) pos) (eY f):=⟨B7 he.1⟩
theorem iQ{c:Expr}{a b:List Stmt}{fc:aw→R Bool}{F G:FS}{pos:Pos}(hc:QB X c fc)(ha:qk X a F)(hb:qk X b G):DT X (.If c a b pos) (qo fc F G):=⟨Gf hc.1 ha.1 hb.1⟩
theorem bz{i:Nat}{x:Str}{pos:Pos}(hN:X.N.Nodup)(hi:X.N[i]? =some x)(hx:Loc X.env.scope x)(hf:X.fn x=true∨X.env.scope.names.lookup x=some .local:=by first | exact .inl rfl | exact .inr rfl | assumption):Gy X (.Name x pos) (bb i):=⟨AK hN hi hx hf⟩
theorem kO:Dt X [] gx:=⟨Bc⟩
theorem d4{e:Expr}{es:List Expr}{t:FT}{u:Aa}(h1:Gy X e t)(h2:Dt X es u)(hs:(assignEach (e ::es) X.env).map (·.2)=assign e X.env ::(assignEach es X.env).map (·.2):=by rfl):Dt X (e ::es) (cI t u):=⟨y_ h1.1 h2.1 hs⟩
theorem mO{es:List Expr}{k:Nat}{t:Aa}{n:Nat}{pos:Pos}(hc:X.calm=true)(h:Dt X es t)(hn:(assignEach es X.env).length=n:=by rfl)(hst:(assignEach es X.env).findIdx? (·.1)=none:=by rfl):Gy X (.Tuple es k pos) (gz n t):=⟨BZ hc h.1 hn hst⟩
theorem cw{tg e:Expr}{f:FD}(h:QD X e f):xU X tg e (dz f):=⟨Cu h.1⟩
theorem eZ{tg a:Expr}{f:FD}{p pos:Pos}(h:QD X a f)(hg:Gl X "range")(hm:X.mg "range"=none)(hs:starEach [a] X.env=[(false,eval a X.env)]:=by rfl):xU X tg (.Call (.Name "range" p) [a] [] pos) (iZ f):=⟨vJ h.1 hg hm hs⟩
theorem j2{tg iter:Expr}{body:List Stmt}{it:aw→R (List D)}{t:FT}{F:FS}{pos:Pos}(hp:PassesOwn (model X.prog X.w) X.A X.env X.xe)(hc:X.calm=true)(hi:xU X tg iter it)(hg:Gy X tg t)(hb:qk X body F)(hs:∀x,foldedSetIterable iter X.env x=pure x:=by intro _;rfl):DT X (.For tg iter body [] pos) (si it t F):=⟨BY hp hc hi.1 hg.1 hb.1 hs⟩
theorem dM{scope:Scope}{own:List Str}{kp:List Nat}{kn:List Str}{tg iter elt:Expr}{ifs:List Expr}{it:aw→R (List D)}{t:FT}{c:aw→R Bool}{f:FD}{pos:Pos}(hc:X.calm=true)(C:ck X scope own kp kn)(hi:xU X tg iter it)(hg:∀fp s H,Gy (bC X scope (own++kn) fp s H) tg t)(hif:∀fp s H,D_ (bC X scope (own++kn) fp s H) ifs c)(he:∀fp s H,QD (bC X scope (own++kn) fp s H) elt f)(hs:∀x,foldedSetIterable iter X.env x=pure x:=by intro _;rfl):QN X (.ListComp elt [⟨tg,iter,ifs,0⟩] scope pos) (eK it t c f own kp):=⟨Dx hc C hi.1 (fun fp s H=>(hg fp s H).1) (fun fp s H=>(hif fp s H).1) (fun fp s H=>(he fp s H).1) hs⟩
theorem gd:D_ X [] qh:=⟨Bh⟩
theorem ky{e:Expr}{c:aw→R Bool}(h:QB X e c):D_ X [e] c:=⟨BX h.1⟩
theorem aU{a b:Expr}{fa fb:FD}{pos:Pos}(ha:QD X a fa)(hb:QD X b fb)(hs:oz b):QD X (.Subscript a b pos) (e2 c0 fa fb):=⟨Hz ha.1 hb.1 hs⟩
theorem jW:QP X none iz:=⟨CS⟩
theorem kz{e:Expr}{f:FD}(h:QD X e f):QP X (some e) (gq f):=⟨Cr h.1⟩
theorem rV{e:Expr}{lo hi:Option Expr}{f:FD}{fl fh:FO}{p2 pos:Pos}(he:QD X e f)(hl:QP X lo fl)(hh:QP X hi fh):QD X (.Subscript e (.Slice lo hi none p2) pos) (wy f fl fh):=⟨G6 he.1 hl.1 hh.1⟩
theorem jh{elts:List Expr}{k:Nat}{tpos:Pos}{a:Expr}{f:FD}{p pos:Pos}(h:QD X a f)(hg:Gl X "enumerate")(hm:X.mg "enumerate"=none)(hs:starEach [a] X.env=[(false,eval a X.env)]:=by rfl):xU X (.Tuple elts k tpos) (.Call (.Name "enumerate" p) [a] [] pos) (eL f):=⟨uH h.1 hg hm hs⟩
theorem c9{P:Program}{w:World}{K:PySem.W.Frag}{mg:Str→Option Value}{base:Heap}{x qual:Str}{st:Stmt}{f:Addr}{fd:FuncData}{N ps:List Str}{k:Nat}{F:FS}{b:List Stmt}{sc:Scope}(hb:ao st=b)(hs:ag st=sc)(Fn:wR K x qual st f fd)(S:ba N ps sc)(hbody:∀(cdv:Value) (A:Around) (outer:List Env) (s:Shared) (H:Hp) (E:XK),dZ k (A.deeper (envOfC qual sc s.heap.objs.size f cdv))→
 qk (qc qp P w K mg base N qual sc f cdv A outer s H E).B9 b F):gM P w K mg base qp (k+1) f fd ps (AB K ps.length (mW N F)):=A0 hb hs Fn S (fun cdv A outer s H E hr=>(hbody cdv A outer s H E hr).1)
theorem b_{g:List D→R D}{k j n:Nat}{x:Str}{p pos:Pos}{e:Expr}{es:List Expr}{fs:aw→R (List D)}(C:Callee X.prog X.w X.K X.mg X.base k x n g)(hr:dZ j X.A)(hkj:k≤j)(hg:Gl X x)(ha:DO X (e ::es) fs)(hn:∀δ ds,fs δ= .ok ds→ds.length=n)(hdb:(x==("__debug__":Str))=false:=by decide)(he:starEach (e ::es) X.env=(false,eval e X.env) ::starEach es X.env:=by rfl)(hpl:(backTo pos (starEach es X.env)).any (·.1)=false:=by rfl):QD X (.Call (.Name x p) (e ::es) [] pos) (aX g fs):=⟨Ay C hr hkj hg ha.1 hn hdb he hpl⟩
theorem CH{keys:List (Option Expr)}{values:List Expr}{trs:List (TE × TE)}{dpos apos cpos:Pos}{e f:Expr}{fe ff:FD}{kvs:List (Key × V)}(hu:X.A.units+1 < cLine)(h:Gn X dpos keys values trs)(hall:keys.all (·.isSome)=true)(hl:keys.length=values.length)(h0:keys≠[])(hc:∀σ H Q,Q (kvs.map fun kv=>(kV kv.1,kv.2)) H→oS trs σ H Q)(hlen:kvs.length≤15)(he:QD X e fe)(hf:QD X f ff)(m:M2 X (.Dict keys values dpos) "get" apos e f cpos)(hd:PE X (.Dict keys values dpos) (Av trs)):QD X (.Call (.Attribute (.Dict keys values dpos) "get" apos) [e,f] [] cpos) (EU kvs fe ff):=⟨Ea hu h hall hl h0 hc hlen he.1 hf.1 m hd⟩
end
end L2
end
section
set_option maxRecDepth 100000
set_option maxHeartbeats 4000000
namespace L2
open PySem PySem.Spec PyProof.Rows
theorem yT{P:Program}{w:World}{K:PySem.W.Frag}{mg mb:Str→Option Value}{CX:zE}{k:Nat}{fa a:Addr}{fd:FuncData}{x:Str}{sp:Sp}{s₁:Shared}{vs:List Value}{ns:List Int}
 (KX:K.In s₁.heap) (hns:s₁.heap.Ns mainGlobals mg) (hb:s₁.heap.Ns builtinsNs mb) (hbb:∀x:Str,x≠"__name__"→mb x=bootBuiltins x) (hlim:s₁.heap.NoLimit) (hg:s₁.gens=#[])
 (ha:s₁.heap.get? a=some {cls:= .type "list",data:= .seq vs.toArray}) (hi:IntsAre vs ns) (hl:ns.length≤sizeLine) (hr:dZ k callerA)
 (F:∀base:Heap,K.In base→base.Ns mainGlobals mg→gM P w K mg base CX k fa fd [x] sp) (hbind:∀(s:Shared) (u:Value),BindsTo s fd ⟨[u],[]⟩ [(x,u)])
 (hsp:∀H:Hp,Hb H→qd K [] H a (ns.map V.int)→sp [.ref a] H (fun v _=>v= .bl true) fun _ _ _=>False)
 (hCX:∀H e s',CX [] H s₁ (fun _ _ _=>False) e s'→False) :
 codeAny (model P w) callerA (.call (.ref fa) ⟨[.ref a],[]⟩) (fun r s'=>r= .ok (.ret (.bool true))∧OldK s₁.heap s'.heap∧s'.os=s₁.os∧AllBare s'.gens) s₁:=by
 have rv:=rm hi
 have lenV:=hi.length
 have core:∀H:Hp,Hb H→qd K [] H a (ns.map V.int)→k3 P w H s₁.heap→(∀b,H b≠none→b=a)→(H a≠none→K.lookup a=none)→
  codeAny (model P w) callerA (.call (.ref fa) ⟨[.ref a],[]⟩) (fun r s'=>r= .ok (.ret (.bool true))∧OldK s₁.heap s'.heap∧s'.os=s₁.os∧AllBare s'.gens) s₁:=by
  intro H hO hS hok hA hK
  have base_of:∀{b:Addr} {o:Obj},s₁.heap.get? b=some o→H b=none→(rR s₁.heap H).get? b=some o:=fun e n=>zF e n
  have noA:∀{b:Addr} {o:Obj} {es:Array DictEntry} {ep:Nat},s₁.heap.get? b=some o→o.data= .dict es ep→H b=none:=fun {b o es ep} e d=>by
   cases q:H b with
   | none=>rfl
   | some u=>
     have e':b=a:=hA b (by rw[q];simp)
     subst e'
     rw[ha] at e;cases e
     have d':Data.seq vs.toArray _=Data.dict es ep:=d
     cases d'
  have nsK:∀{b:Addr} {m:Str→Option Value},s₁.heap.Ns b m→(rR s₁.heap H).Ns b m:=fun {b m} ⟨o,es,ep,e,d,r⟩=>⟨o,es,ep,base_of e (noA e d),d,r⟩
  have hKb:K.In (rR s₁.heap H):=fun b o e=>base_of (KX b o e) (by
   cases q:H b with
   | none=>rfl
   | some u=>
     have e':b=a:=hA b (by rw[q];simp)
     subst e'
     rw[hK (by rw[q];simp)] at e;cases e)
  have hM:Mod K mg (rR s₁.heap H):=⟨hKb,nsK hns,⟨mb,nsK hb,hbb⟩,let⟨mc,h1,h2⟩:=hlim;⟨mc,nsK h1,h2⟩⟩
  have e0:wo P w K mg (rR s₁.heap H) callerA [] s₁ H:=⟨rfl,hM,fun b o e=>Cj e,Nat.le_of_eq (zc _ _),trivial,fun b hb=>absurd (show b∈([]:List Addr) from hb) (by simp),hok, .of_eq hg⟩
  refine codeAny_mono ((F _ hKb (nsK hns)).run callerA [] s₁ H ⟨[.ref a],[]⟩ [.ref a] [.ref a] _ _ hr e0 (hbind s₁ (.ref a)) (.cons rfl .nil) (hsp H hO hS)) fun r s' h=>?_
  cases r with
  | error e=>exact(hCX H e s' h).elim
  | ok fl=>
    cases fl with
    | next=>exact False.elim h
    | brk=>exact False.elim h
    | cont=>exact False.elim h
    | ret u=>
      obtain⟨v,H',os,bare,un,hok',r',q⟩:=h
      have q':v= .bl true:=q
      subst q'
      obtain rfl:u=Value.bool true:=r'
      refine⟨rfl,OldK.of_keep fun b o e=>?_,os,bare⟩
      cases q:H b with
      | none=>exact un.keep b o e q (by intro z;exact absurd (show b∈([]:List Addr) from z) (by simp)) (by simp)
      | some u=>
        rcases hO b with z | ⟨ob,xs,z⟩
        ·rw[q] at z;cases z
        ·have z2:=un.frzs b ob _ z
         obtain⟨e1,_⟩:=hok b _ z
         obtain⟨e2,_⟩:=hok' b _ z2
         rw[e] at e1;cases e1
         exact e2
 cases hk:K.lookup a with
 | some o=>
   have e:=KX a o hk
   rw[ha] at e
   cases e
   refine core (fun _=>none) (fun _=> .inl rfl) (.inr ⟨vs,_,hk,by rw[List.length_map];exact hl,rv⟩) (fun b u z=>by have z':(none:Option HO)=some u:=z;cases z') (fun b z=>absurd rfl z) fun z=>absurd rfl z
 | none=>
   refine core (fun b=>if b=a then some (.iE {cls:= .type "list",data:= .seq vs.toArray} (.lst (ns.map V.int))) else none) (fun b=>?_) (.inl ⟨by simp, .inr ⟨{cls:= .type "list",data:= .seq vs.toArray},if_pos rfl⟩⟩) (fun b u z=>?_) (fun b z=>?_) fun _=>hk
   ·by_cases hb:b=a
    ·exact .inr ⟨_,_,if_pos hb⟩
    ·exact .inl (if_neg hb)
   ·by_cases hb:b=a
    ·have z':=(if_pos hb).symm.trans z
     cases z'
     subst hb
     exact⟨ha,by rw[List.length_map];exact hl,vs,_,rv,ha⟩
    ·have z':=(if_neg hb).symm.trans z
     cases z'
   ·by_cases hb:b=a
    ·exact hb
    ·exact absurd (if_neg hb) z
theorem ints_rep{K:PySem.W.Frag}{B:List Addr}{H:Hp}:∀ns:List Int,aC K B H (ns.map D.int) (ns.map V.int)
 | []=>aC.nil
 | n ::ns=>aC.cons (Rep.int.mpr rfl) (ints_rep ns)
theorem Hd{l:PySem.W.OpenLaw}{n k:Nat}{q:Program}{loose:List Str}{XP:(Str→Option Value)→Heap→Prop}{YP:World→Heap→Prop}{d:DefRec}{K:Params→PySem.W.Frag}{x:Str}{g:List D→R D}
 (hn:l.most=some n) (hn2:n≤sizeLine) (hdf:d.params.defaults=[]) (hr:dZ k callerA) (hY:∀(w:World) (h:Heap),YP w h→(K w.params).In h)
 (F:∀(w:World) (mg:Str→Option Value) (fa:Addr) (h:Heap),(K w.params).In h→h.Ns mainGlobals mg→mg d.name=some (.ref fa)→
   ∃fd:FuncData,(∀(s:Shared) (u:Value),BindsTo s fd ⟨[u],[]⟩ [(x,u)])∧∀base:Heap,(K w.params).In base→base.Ns mainGlobals mg→gM l.prog w (K w.params) mg base qp k fa fd [x] (AB (K w.params) 1 g))
 (hg:∀ns:List Int,ns.length≤n→g [.lst (ns.map D.int)]= .ok (.bl true)):PySem.W.WalkO q loose XP YP l.row.toRowW d [] (fun f vs=>PySem.call f vs):=by
 refine Att.t_ hn hdf fun w s₀ s₁ mg mb fa o pm cd doc a vs ns G Y ho hd hcd hmg hobj hints hlen hgen=>?_
 have KX:=hY w _ Y
 obtain⟨fd,hb,hF⟩:=F w mg fa _ KX G.T.g hmg
 refine yT KX G.T.g G.T.b G.T.builtins G.T.nolimit hgen hobj hints (Nat.le_trans hlen hn2) hr hF hb (fun H hO hS=>?_) fun H e s' h=>h
 refine⟨rfl,[],[.lst (ns.map D.int)], .bl true,fun b hb=>(by cases hb),aC.cons (Rep.lst.mpr ⟨_,_,rfl,hS,ints_rep ns⟩) aC.nil,hg ns hlen,fun z H' _ r=>Rep.bl.mp r⟩
theorem cC{K:PySem.W.Frag}{h:Heap}{mg:Str→Option Value}{x:Str}{st:Stmt}{f:Addr}{oc:Value}{od an:Option Addr}{osl:Array (Option Value)}{kV doc pm cdv ct:Value}(X:K.In h)(G:h.Ns mainGlobals mg)(a:PySem.W.nsIn K mainGlobals x=some (some (.ref f)))
 (l:K.lookup f=some ⟨oc,od, .func (PySem.W.fnOf x x (gn st) (ao st) (ag st) .none kV doc pm an cdv ct),osl⟩) (c:PySem.W.codeIn K cdv x=true) (k:PySem.W.keepIn K (.ref f)=true):Def K mg x st:=
 ⟨f,_,mR l c k,PySem.W.mg_of X G a⟩
end L2
end
section
set_option maxRecDepth 100000
set_option maxHeartbeats 4000000
namespace L2
open PySem PySem.Spec PyProof.Rows
theorem pC{t:FT}{body:FS}:∀(ds:List D) (n:Nat) (P:Nat→aw→Prop) {δ:aw},P n δ→
 (∀i d δ,ds[i]? =some d→P (n+i) δ→∃δ',((t d δ).bind body)= .ok (.nx δ')∧P (n+i+1) δ')→∃δ',nS t body ds δ= .ok (.nx δ')∧P (n+ds.length) δ'
 | [],n,P,δ,h0,_=>⟨δ,rfl,h0⟩
 | d ::ds,n,P,δ,h0,hs=>by
   obtain⟨δ1,e1,p1⟩:=hs 0 d δ rfl h0
   obtain⟨δ2,e2,p2⟩:=pC ds (n+1) P p1 (fun i d' δ' hi hp=>by
    have:=hs (i+1) d' δ' (by simpa using hi) (by rw[show n+(i+1)=n+1+i by omega];exact hp)
    rw[show n+(i+1)+1=n+1+i+1 by omega] at this
    exact this)
   refine⟨δ2,?_,by rw[List.length_cons,show n+(ds.length+1)=n+1+ds.length by omega];exact p2⟩
   obtain⟨δ0,h1,h2⟩:=R.aj e1
   show(t d δ).bind (fun δ1=>(body δ1).bind fun o=>match o with | .nx δ2=>nS t body ds δ2 | .rt r=> .ok (.rt r))=_
   rw[h1,R.aO,h2,R.aO]
   exact e2
theorem i3{t:FT}{body:FS}{ds:List D}(P:Nat→aw→Prop){δ:aw}(h0:P 0 δ)
 (hs:∀i d δ,ds[i]? =some d→P i δ→∃δ',((t d δ).bind body)= .ok (.nx δ')∧P (i+1) δ'):∃δ',nS t body ds δ= .ok (.nx δ')∧P ds.length δ':=by
 have:=pC (t:=t) (body:=body) ds 0 P h0 (fun i d δ hi hp=>by simpa using hs i d δ hi (by simpa using hp))
 simpa using this
theorem lM{α:Type}{xs:List α}{i:Int}(h0:0≤i)(h:i.toNat < xs.length):nK xs i=some xs[i.toNat]:=by
 unfold nK pF
 rw[if_pos h0,if_pos (by omega)]
 simp [h]
theorem ints_map:∀ss:List Int,ints? (ss.map D.int)=some ss
 | []=>rfl
 | s ::ss=>by show(ints? (ss.map D.int)).map (s ::·)=_;rw [ints_map ss];rfl
theorem bN{F G:FS}{δ δ1:aw}{r:R Out}(h:F δ= .ok (.nx δ1))(h2:G δ1=r):eV F G δ=r:=by unfold eV;rw [h,R.aO];exact h2
theorem dW{f:aw→R (List D)}{δ:aw}{ds:List D}(h:f δ= .ok ds):eNew f δ= .ok (.lst ds):=by unfold eNew;rw [h];rfl
theorem nP{c:aw→R Bool}{F G:FS}{δ:aw}{r:R Out}(h:c δ= .ok true)(h2:F δ=r):qo c F G δ=r:=by unfold qo;rw [h,R.aO,if_pos rfl];exact h2
theorem gL{c:aw→R Bool}{F G:FS}{δ:aw}{r:R Out}(h:c δ= .ok false)(h2:G δ=r):qo c F G δ=r:=by unfold qo;rw [h,R.aO,if_neg (by decide)];exact h2
theorem mM{it:aw→R (List D)}{t:FT}{F:FS}{δ:aw}{ds:List D}{r:R Out}(h:it δ= .ok ds)(h2:nS t F ds δ=r):si it t F δ=r:=by unfold si;rw [h,R.aO];exact h2
theorem cz{f:FD}{δ:aw}{d:D}(h:f δ= .ok d):eY f δ= .ok (.rt d):=by unfold eY;rw [h];rfl
theorem dn{N:List Str}{F:FS}{ds:List D}{d:D}(h:F (cU N ds)= .ok (.rt d)):mW N F ds= .ok d:=by unfold mW;rw [h];rfl
theorem cb{α:Type}{p:Prop} [Decidable p](r:R α)(h:p):R.bE (decide p) r=r:=by rw[decide_eq_true h];rfl
theorem iT{i:Nat}{f:FD}{δ:aw}{d:D}(h:f δ= .ok d)(hi:i < δ.length):jE i f δ= .ok (.nx (δ.set i (.val d))):=by unfold jE;rw [h,R.aO,cb _ hi]
theorem Dj{i:Nat}{f:aw→R (List D)}{δ:aw}{ds:List D}(h:f δ= .ok ds)(hi:i < δ.length):nC i f δ= .ok (.nx (δ.set i (.bld ds))):=by unfold nC;rw [h,R.aO,cb _ hi]
theorem CB{i:Nat}{f:FD}{δ:aw}{d:D}{ds:List D}(h:f δ= .ok d)(hb:δ[i]? =some (.bld ds))(hl:ds.length < sizeLine):n5 i f δ= .ok (.nx (δ.set i (.bld (ds++[d])))):=by unfold n5 i4;rw [h,R.aO,hb];show R.bE _ _=_;rw [cb _ hl]
theorem d7{it:aw→R (List D)}{t:FT}{c:aw→R Bool}{f:FD}{own:List Str}{kp:List Nat}{δ:aw}{ds ys:List D}(h1:it δ= .ok ds)(h2:ds.length≤sizeLine)(h3:me t c f (pd own kp δ) ds= .ok ys):eK it t c f own kp δ= .ok ys:=by unfold eK;rw [h1,R.aO,cb _ h2,h3]
theorem sN{ds:List D}{i:Int}{d:D}(h:nK ds i=some d):c0 (.lst ds) (.int i)= .ok d:=by unfold c0;simp only[h]
theorem sQ{ds:List D}{i:Int}{d:D}(h:nK ds i=some d):c0 (.tup ds) (.int i)= .ok d:=by unfold c0;simp only[h]
end L2
end
section
set_option maxRecDepth 100000
namespace L2
open PySem PySem.Spec PyProof.Rows
theorem aJ{g:D→D→R D}{fa fb:FD}{δ:aw}{a b:D}{r:R D}(ha:fa δ= .ok a)(hb:fb δ= .ok b)(h:g a b=r):e2 g fa fb δ=r:=by unfold e2;rw [ha,R.aO,hb,R.aO];exact h
theorem eJ{g:D→D→R D}{fa fb:FD}{δ:aw}{a b:D}{k:Bool}(ha:fa δ= .ok a)(hb:fb δ= .ok b)(h:g a b= .ok (.bl k)):b2 g fa fb δ= .ok k:=by unfold b2;rw [aJ ha hb h];rfl
theorem aR{f:FD}{g:aw→R (List D)}{δ:aw}{d:D}{ds:List D}(h:f δ= .ok d)(h2:g δ= .ok ds):ay f g δ= .ok (d ::ds):=by unfold ay;rw [h,R.aO,h2];rfl
theorem aN{g:List D→R D}{fs:aw→R (List D)}{δ:aw}{ds:List D}{r:R D}(h:fs δ= .ok ds)(h2:g ds=r):aX g fs δ=r:=by unfold aX;rw [h,R.aO];exact h2
theorem fB{g:aw→R (List D)}{δ:aw}{ds:List D}(h:g δ= .ok ds)(hl:ds.length≤sizeLine):eW g δ= .ok (.tup ds):=by unfold eW;rw [h,R.aO,cb _ hl]
theorem mf{g:aw→R (List D)}{δ:aw}{ds:List D}(h:g δ= .ok ds)(hl:ds.length≤sizeLine):dN g δ= .ok ds:=by unfold dN;rw [h,R.aO,cb _ hl]
theorem sG{f:FD}{fl fh:FO}{δ:aw}{d:D}{lo hi:Option Int}{r:R D}(h:f δ= .ok d)(h1:fl δ= .ok lo)(h2:fh δ= .ok hi)(h3:Hm d lo hi=r):wy f fl fh δ=r:=by unfold wy;rw [h,R.aO,h1,R.aO,h2,R.aO];exact h3
theorem A6{f:FD}{δ:aw}{i:Int}(h:f δ= .ok (.int i)):gq f δ= .ok (some i):=by unfold gq;rw [h];rfl
theorem CV{a b:List D}(h:a.length+b.length≤sizeLine):f7 (.lst a) (.lst b)= .ok (.lst (a++b)):=by unfold f7;exact cb _ h
theorem vM{a b:Int}(h:0 < b):jY (.int a) (.int b)= .ok (.int (a % b)):=by unfold jY uc;exact cb _ h
theorem B8{a b:Int}(h:0 < b)(h2:b < 1073741824):jR (.int a) (.int b)= .ok (.int (a / b)):=by unfold jR uc;exact cb _ ⟨h,h2⟩
theorem kJ{f:FD}{δ:aw}{n:Nat}(h:f δ= .ok (.int n))(hn:n < 1000000):iZ f δ= .ok (dS 0 n):=by
 unfold iZ;rw [h,R.aO];show R.bE (decide (-(2 ^ 62)≤(n:Int)∧(n:Int) < 2 ^ 62)) _=_
 rw[cb _ ⟨by omega,by omega⟩,Int.toNat_natCast]
theorem kr{f:FD}{δ:aw}{ds:List D}(h:f δ= .ok (.lst ds)):dz f δ= .ok ds:=by unfold dz;rw [h];rfl
theorem k_{f:FD}{δ:aw}{ds:List D}(h:f δ= .ok (.tup ds)):dz f δ= .ok ds:=by unfold dz;rw [h];rfl
theorem zW{f:FD}{δ:aw}{ds:List D}(h:f δ= .ok (.lst ds)):eL f δ= .ok (cX ds):=by unfold eL;rw [h];rfl
theorem n3(ds:List D):eP [.lst ds]= .ok (.int ds.length):=rfl
end L2
end
section
set_option maxRecDepth 100000
set_option maxHeartbeats 4000000
namespace L3
open PySem PySem.Spec PyProof.Rows L2
inductive V3 where
 | d (x:D) | loc (k:Nat) | lst (vs:List V3) | tup (vs:List V3)
inductive SO where
 | lst (ds:List D) | dct (kvs:List (Key × D)) | ins (c:Nat) (fs:List (Str × V3)) | iE
noncomputable abbrev aH:=List SO
inductive R3 (α:Type) where
 | ok (a:α) (S:aH) | ex (c:Nat) (S:aH) | no
noncomputable def R3.bind{α β:Type}:R3 α→(α→aH→R3 β)→R3 β
 | .ok a S,f=>f a S
 | .ex c S,_=> .ex c S
 | .no,_=> .no
theorem R3.aj{α β:Type}{r:R3 α}{f:α→aH→R3 β}{b:β}{S':aH}(h:r.bind f= .ok b S'):∃a S,r= .ok a S∧f a S= .ok b S':=by
 cases r with
 | ok a S=>exact⟨a,S,rfl,h⟩
 | ex c S=>cases h
 | no=>cases h
@[simp] theorem R3.aO{α β:Type}(a:α)(S:aH)(f:α→aH→R3 β):(R3.ok a S).bind f=f a S:=rfl
noncomputable def R3.bE{α:Type}(c:Bool)(r:R3 α):R3 α:=if c then r else .no
theorem R3.bf{α:Type}{c:Bool}{r:R3 α}{a:α}{S:aH}(h:R3.bE c r= .ok a S):c=true∧r= .ok a S:=by
 cases c with
 | true=>exact⟨rfl,h⟩
 | false=>cases h
noncomputable def R3.of{α:Type}(r:R α)(S:aH):R3 α:=match r with | .ok a=> .ok a S | _=> .no
theorem R3.of_ok{α:Type}{r:R α}{S S':aH}{a:α}(h:R3.of r S= .ok a S'):r= .ok a∧S'=S:=by
 cases r with
 | ok b=>cases h;exact⟨rfl,rfl⟩
 | ex c=>cases h
 | no=>cases h
structure P3 where
 r:List Addr
 z:List Addr
 f:List Addr
noncomputable def P3.b(ρ:P3):List Addr:=ρ.r.filter (fun a=>!ρ.f.contains a)++ρ.z
theorem P3.dA{ρ:P3}{a:Addr}:a∈ρ.b↔(a∈ρ.r∧a ∉ ρ.f)∨a∈ρ.z:=by
 unfold P3.b
 rw[List.mem_append,List.mem_filter]
 simp
noncomputable def P3.push(ρ:P3)(a:Addr):P3:=⟨ρ.r++[a],ρ.z,ρ.f⟩
noncomputable def P3.cut(ρ:P3)(n:Nat):P3:=⟨ρ.r.take n,ρ.z,ρ.f⟩
mutual
noncomputable def aZ(K:PySem.W.Frag)(ρ:P3)(H:Hp):V3→V→Prop
 | .d x,v=>Rep K ρ.b H x v
 | .loc k,v=>∃a,ρ.r[k]? =some a∧v= .ref a
 | .lst vs,v=>∃a xs,v= .ref a∧qd K ρ.b H a xs∧az K ρ H vs xs
 | .tup vs,v=>∃a xs,v= .ref a∧qZ K ρ.b H a xs∧az K ρ H vs xs
noncomputable def az(K:PySem.W.Frag)(ρ:P3)(H:Hp):List V3→List V→Prop
 | [],xs=>xs=[]
 | d ::ds,xs=>∃x r,xs=x ::r∧aZ K ρ H d x∧az K ρ H ds r
end
structure Pre (ρ:P3) (H:Hp) (ρ':P3) (H':Hp):Prop where
 bo:dq ρ.b H ρ'.b H'
 zz:ρ'.z=ρ.z
 zs:∀(b:Addr) (o:HO),b∈ρ.z→H b=some o→H' b=some o
 ext:∀(k:Nat) (a:Addr),ρ.r[k]? =some a→ρ'.r[k]? =some a
theorem Pre.refl(ρ:P3)(H:Hp):Pre ρ H ρ H:=⟨dq.refl ρ.b H,rfl,fun _ _ _ h=>h,fun _ _ h=>h⟩
theorem Pre.trans{ρ ρ' ρ'':P3}{H H' H'':Hp}(a:Pre ρ H ρ' H')(b:Pre ρ' H' ρ'' H''):Pre ρ H ρ'' H'':=⟨a.bo.trans b.bo,b.zz.trans a.zz,fun c o hc h=>b.zs c o (by rw[a.zz];exact hc) (a.zs c o hc h),fun k x h=>b.ext k x (a.ext k x h)⟩
theorem Pre.same{ρ:P3}{H H':Hp}(s:aS H H'):Pre ρ H ρ H':=⟨dq.same s,rfl,fun b o _ h=>s b o h,fun _ _ h=>h⟩
theorem qZ.bo{K:PySem.W.Frag}{B B':List Addr}{H H':Hp}(p:dq B H B' H'){a:Addr}{xs:List V}(l:qZ K B H a xs):qZ K B' H' a xs:=
 l.elim (fun z=> .inl ⟨(p.rd z.2 z.1).2,(p.rd z.2 z.1).1⟩) .inr
mutual
theorem aZ.pre{K:PySem.W.Frag}{ρ ρ':P3}{H H':Hp}(p:Pre ρ H ρ' H'):∀{d:V3} {v:V},aZ K ρ H d v→aZ K ρ' H' d v
 | .d x,v,h=>by unfold aZ at h ⊢;exact h.bo p.bo
 | .loc k,v,h=>by unfold aZ at h ⊢;obtain⟨a,h1,h2⟩:=h;exact⟨a,p.ext k a h1,h2⟩
 | .lst vs,v,h=>by unfold aZ at h ⊢;obtain⟨a,xs,e,l,r⟩:=h;exact⟨a,xs,e,l.bo p.bo,az.pre p r⟩
 | .tup vs,v,h=>by unfold aZ at h ⊢;obtain⟨a,xs,e,l,r⟩:=h;exact⟨a,xs,e,qZ.bo p.bo l,az.pre p r⟩
theorem az.pre{K:PySem.W.Frag}{ρ ρ':P3}{H H':Hp}(p:Pre ρ H ρ' H'):∀{ds:List V3} {xs:List V},az K ρ H ds xs→az K ρ' H' ds xs
 | [],_,h=>by unfold az at h ⊢;exact h
 | d ::ds,xs,h=>by
   unfold az at h ⊢
   obtain⟨x,r,e,h1,h2⟩:=h
   exact⟨x,r,e,aZ.pre p h1,az.pre p h2⟩
end
structure PW (ρ:P3) (H:Hp) (ρ':P3) (H':Hp):Prop where
 bo:dq ρ.b H ρ'.b H'
 ext:∀(k:Nat) (a:Addr),ρ.r[k]? =some a→ρ'.r[k]? =some a
theorem Pre.pw{ρ ρ':P3}{H H':Hp}(p:Pre ρ H ρ' H'):PW ρ H ρ' H':=⟨p.bo,p.ext⟩
theorem PW.trans{ρ ρ' ρ'':P3}{H H' H'':Hp}(a:PW ρ H ρ' H')(b:PW ρ' H' ρ'' H''):PW ρ H ρ'' H'':=⟨a.bo.trans b.bo,fun k x h=>b.ext k x (a.ext k x h)⟩
mutual
theorem aZ.pw{K:PySem.W.Frag}{ρ ρ':P3}{H H':Hp}(p:PW ρ H ρ' H'):∀{d:V3} {v:V},aZ K ρ H d v→aZ K ρ' H' d v
 | .d x,v,h=>by unfold aZ at h ⊢;exact h.bo p.bo
 | .loc k,v,h=>by unfold aZ at h ⊢;obtain⟨a,h1,h2⟩:=h;exact⟨a,p.ext k a h1,h2⟩
 | .lst vs,v,h=>by unfold aZ at h ⊢;obtain⟨a,xs,e,l,r⟩:=h;exact⟨a,xs,e,l.bo p.bo,az.pw p r⟩
 | .tup vs,v,h=>by unfold aZ at h ⊢;obtain⟨a,xs,e,l,r⟩:=h;exact⟨a,xs,e,qZ.bo p.bo l,az.pw p r⟩
theorem az.pw{K:PySem.W.Frag}{ρ ρ':P3}{H H':Hp}(p:PW ρ H ρ' H'):∀{ds:List V3} {xs:List V},az K ρ H ds xs→az K ρ' H' ds xs
 | [],_,h=>by unfold az at h ⊢;exact h
 | d ::ds,xs,h=>by
   unfold az at h ⊢
   obtain⟨x,r,e,h1,h2⟩:=h
   exact⟨x,r,e,aZ.pw p h1,az.pw p h2⟩
end
theorem az.nil{K:PySem.W.Frag}{ρ:P3}{H:Hp}:az K ρ H [] []:=by unfold az;rfl
theorem az.cons{K:PySem.W.Frag}{ρ:P3}{H:Hp}{d:V3}{ds:List V3}{x:V}{xs:List V}(h:aZ K ρ H d x)(t:az K ρ H ds xs):az K ρ H (d ::ds) (x ::xs):=by
 unfold az;exact⟨x,xs,rfl,h,t⟩
theorem az.bJ{K:PySem.W.Frag}{ρ:P3}{H:Hp}{d:V3}{ds:List V3}{xs:List V}(h:az K ρ H (d ::ds) xs):∃x r,xs=x ::r∧aZ K ρ H d x∧az K ρ H ds r:=by
 unfold az at h;exact h
theorem az.length{K:PySem.W.Frag}{ρ:P3}{H:Hp}:∀{ds:List V3} {xs:List V},az K ρ H ds xs→ds.length=xs.length
 | [],_,h=>by unfold az at h;rw [h];rfl
 | d ::ds,xs,h=>by
   obtain⟨x,r,rfl,_,h2⟩:=h.bJ
   simp [h2.length]
theorem az.of{K:PySem.W.Frag}{ρ:P3}{H:Hp}:∀{ds:List D} {xs:List V},aC K ρ.b H ds xs→az K ρ H (ds.map .d) xs
 | [],_,h=>by unfold aC at h;subst h;exact az.nil
 | d ::ds,xs,h=>by
   obtain⟨x,r,rfl,h1,h2⟩:=h.bJ
   exact az.cons (by unfold aZ;exact h1) (az.of h2)
theorem az.to{K:PySem.W.Frag}{ρ:P3}{H:Hp}:∀{ds:List D} {xs:List V},az K ρ H (ds.map .d) xs→aC K ρ.b H ds xs
 | [],_,h=>by unfold az at h;subst h;exact aC.nil
 | d ::ds,xs,h=>by
   obtain⟨x,r,rfl,h1,h2⟩:=az.bJ h
   unfold aZ at h1
   exact aC.cons h1 (az.to h2)
noncomputable def AL(K:PySem.W.Frag)(cl:Nat→Addr)(ρ:P3)(H:Hp):SO→Option HO→Prop
 | .lst ds,h=>∃xs,h=some (.lst xs)∧aC K ρ.b H ds xs
 | .dct kvs,h=>∃ys,h=some (.dK ys)∧ys.map (·.1)=kvs.map (·.1)∧aC K ρ.b H (kvs.map (·.2)) (ys.map (·.2))
 | .ins c fs,h=>∃dx ys,h=some (.ins (cl c) dx ys)∧ys.map (·.1)=fs.map (·.1)∧az K ρ H (fs.map (·.2)) (ys.map (·.2))
 | .iE,h=>∃u,h=some u
theorem AL.pre{K:PySem.W.Frag}{cl:Nat→Addr}{ρ ρ':P3}{H H':Hp}(p:Pre ρ H ρ' H'){o:SO}{h:Option HO}(r:AL K cl ρ H o h):AL K cl ρ' H' o h:=by
 cases o with
 | lst ds=>obtain⟨xs,e,q⟩:=r;exact⟨xs,e,q.bo p.bo⟩
 | dct kvs=>obtain⟨ys,e,e2,q⟩:=r;exact⟨ys,e,e2,q.bo p.bo⟩
 | ins c fs=>obtain⟨dx,ys,e,e2,q⟩:=r;exact⟨dx,ys,e,e2,q.pre p⟩
 | iE=>exact r
theorem AL.pw{K:PySem.W.Frag}{cl:Nat→Addr}{ρ ρ':P3}{H H':Hp}(p:PW ρ H ρ' H'){o:SO}{h:Option HO}(r:AL K cl ρ H o h):AL K cl ρ' H' o h:=by
 cases o with
 | lst ds=>obtain⟨xs,e,q⟩:=r;exact⟨xs,e,q.bo p.bo⟩
 | dct kvs=>obtain⟨ys,e,e2,q⟩:=r;exact⟨ys,e,e2,q.bo p.bo⟩
 | ins c fs=>obtain⟨dx,ys,e,e2,q⟩:=r;exact⟨dx,ys,e,e2,q.pw p⟩
 | iE=>exact r
theorem AL.some{K:PySem.W.Frag}{cl:Nat→Addr}{ρ:P3}{H:Hp}{o:SO}{h:Option HO}(r:AL K cl ρ H o h):∃u,h=some u:=by
 cases o with
 | lst ds=>obtain⟨xs,e,q⟩:=r;exact⟨_,e⟩
 | dct kvs=>obtain⟨ys,e,e2,q⟩:=r;exact⟨_,e⟩
 | ins c fs=>obtain⟨dx,ys,e,e2,q⟩:=r;exact⟨_,e⟩
 | iE=>exact r
structure SW (K:PySem.W.Frag) (cl:Nat→Addr) (ρ:P3) (H:Hp) (S:aH):Prop where
 len:ρ.r.length=S.length
 nd:∀(i j:Nat) (a:Addr),ρ.r[i]? =some a→ρ.r[j]? =some a→i=j
 ob:∀(k:Nat) (a:Addr) (o:SO),ρ.r[k]? =some a→S[k]? =some o→AL K cl ρ H o (H a)
 zb:∀b∈ρ.z,(∃xs,H b=some (.lst xs))∧b ∉ ρ.r
 fz:∀(k:Nat) (a:Addr),ρ.r[k]? =some a→S[k]?≠some .iE→a ∉ ρ.f
 ff:∀a∈ρ.f,∃o,H a=some o
 fi:∀(k:Nat) (a:Addr),ρ.r[k]? =some a→S[k]? =some .iE→a∈ρ.f
theorem SW.rs{K:PySem.W.Frag}{cl:Nat→Addr}{ρ:P3}{H:Hp}{S:aH}(w:SW K cl ρ H S):∀a∈ρ.r,∃o,H a=some o:=fun a z=>by
 obtain⟨k,hk⟩:=List.getElem?_of_mem z
 have hl:=(List.getElem?_eq_some_iff.mp hk).1
 exact(w.ob k a _ hk (List.getElem?_eq_getElem (by rw[←w.len];exact hl))).some
theorem SW.bs{K:PySem.W.Frag}{cl:Nat→Addr}{ρ:P3}{H:Hp}{S:aH}(w:SW K cl ρ H S):∀a∈ρ.b,∃o,H a=some o:=fun a ha=>by
 rcases P3.dA.mp ha with z | z
 ·exact w.rs a z.1
 ·obtain⟨xs,h⟩:=(w.zb a z).1
  exact⟨_,h⟩
theorem SW.same{K:PySem.W.Frag}{cl:Nat→Addr}{ρ:P3}{H H':Hp}{S:aH}(w:SW K cl ρ H S)(s:aS H H'):SW K cl ρ H' S:=
 ⟨w.len,w.nd,fun k a o h1 h2=>by
   have r:=w.ob k a o h1 h2
   obtain⟨u,hu⟩:=r.some
   rw[s a u hu,←hu]
   exact r.pre (Pre.same s),fun b hb=>let⟨⟨o,ho⟩,n⟩:=w.zb b hb;⟨⟨o,s b _ ho⟩,n⟩,w.fz,fun a ha=>let⟨o,ho⟩:=w.ff a ha;⟨o,s a o ho⟩,w.fi⟩
theorem P3.mem_push{ρ:P3}{a b:Addr}(h:b∈(ρ.push a).b):b∈ρ.b∨b=a:=by
 rcases P3.dA.mp h with⟨z,n⟩ | z
 ·rcases List.mem_append.mp z with y | y
  ·exact .inl (P3.dA.mpr (.inl ⟨y,n⟩))
  ·exact .inr (List.mem_singleton.mp y)
 ·exact .inl (P3.dA.mpr (.inr z))
theorem SW.new{K:PySem.W.Frag}{cl:Nat→Addr}{ρ:P3}{H H':Hp}{S:aH}(w:SW K cl ρ H S){a:Addr}{o:SO}(s:aS H H')(n:H a=none)(r:AL K cl (ρ.push a) H' o (H' a))(hne:o≠SO.iE:=by intro h;cases h) :
 SW K cl (ρ.push a) H' (S++[o])∧Pre ρ H (ρ.push a) H':=by
 have na:a ∉ ρ.b:=fun ha=>by obtain⟨o,ho⟩:=w.bs a ha;rw [n] at ho;cases ho
 have nr:a ∉ ρ.r:=fun ha=>by obtain⟨o,ho⟩:=w.rs a ha;rw [n] at ho;cases ho
 have nf:a ∉ ρ.f:=fun ha=>by obtain⟨o,ho⟩:=w.ff a ha;rw [n] at ho;cases ho
 have p:Pre ρ H (ρ.push a) H':=⟨fun b u e nb=>⟨s b u e,fun hb=>by
  rcases P3.mem_push hb with z | z
  ·exact nb z
  ·subst z;rw [n] at e;cases e⟩,rfl,fun b o _ h=>s b o h,fun k x hx=>by
   show(ρ.r++[a])[k]? =_
   rw[List.getElem?_append_left (List.getElem?_eq_some_iff.mp hx).1];exact hx⟩
 have last:∀(i:Nat) (b:Addr),(ρ.push a).r[i]? =some b→(i < ρ.r.length∧ρ.r[i]? =some b)∨(i=ρ.r.length∧b=a):=fun i b h=>by
  have h:(ρ.r++[a])[i]? =some b:=h
  by_cases q:i < ρ.r.length
  ·rw[List.getElem?_append_left q] at h;exact .inl ⟨q,h⟩
  ·rw[List.getElem?_append_right (by omega)] at h
   have h0:i - ρ.r.length=0:=by
    have:=(List.getElem?_eq_some_iff.mp h).1
    simp at this;omega
   rw[h0] at h
   cases h
   exact .inr ⟨by omega,rfl⟩
 refine⟨⟨by show(ρ.r++[a]).length=_;rw [List.length_append,List.length_append,w.len];rfl,fun i j b hi hj=>?_,fun k b u hk hu=>?_,fun b hb=>?_,fun k b hk hu=>?_,fun b hb=>?_,fun k b hk hu=>?_⟩,p⟩
 ·rcases last i b hi with⟨q1,q2⟩ | ⟨q1,rfl⟩
  ·rcases last j b hj with⟨z1,z2⟩ | ⟨z1,rfl⟩
   ·exact w.nd i j b q2 z2
   ·exact absurd (List.mem_of_getElem? q2) nr
  ·rcases last j b hj with⟨z1,z2⟩ | ⟨z1,z3⟩
   ·exact absurd (List.mem_of_getElem? z2) nr
   ·omega
 ·rcases last k b hk with⟨q1,q2⟩ | ⟨q1,rfl⟩
  ·rw[List.getElem?_append_left (by rw[←w.len];exact q1)] at hu
   have r0:=w.ob k b u q2 hu
   obtain⟨x,hx⟩:=r0.some
   rw[s b x hx,←hx]
   exact r0.pre p
  ·rw[List.getElem?_append_right (by rw[←w.len];omega),q1,w.len,Nat.sub_self] at hu
   cases hu
   exact r
 ·obtain⟨⟨o,ho⟩,nb⟩:=w.zb b hb
  refine⟨⟨o,s b _ ho⟩,fun h=>?_⟩
  rcases List.mem_append.mp h with y | y
  ·exact nb y
  ·rw[List.mem_singleton] at y;subst y;rw [n] at ho;cases ho
 ·rcases last k b hk with⟨q1,q2⟩ | ⟨q1,rfl⟩
  ·rw[List.getElem?_append_left (by rw[←w.len];exact q1)] at hu
   exact w.fz k b q2 hu
  ·exact nf
 ·obtain⟨o,ho⟩:=w.ff b hb
  exact⟨o,s b o ho⟩
 ·rcases last k b hk with⟨q1,q2⟩ | ⟨q1,rfl⟩
  ·rw[List.getElem?_append_left (by rw[←w.len];exact q1)] at hu
   exact w.fi k b q2 hu
  ·rw[List.getElem?_append_right (by rw[←w.len];omega),q1,w.len,Nat.sub_self] at hu
   cases hu
   exact absurd rfl hne
theorem SW.put{K:PySem.W.Frag}{cl:Nat→Addr}{ρ:P3}{H:Hp}{S:aH}(w:SW K cl ρ H S){k:Nat}{a:Addr}{o:SO}{u:HO}(hk:ρ.r[k]? =some a)(hf:a ∉ ρ.f)(r:AL K cl ρ H o (some u))(hne:o≠SO.iE:=by intro h;cases h) :
 SW K cl ρ (upd H a u) (S.set k o)∧Pre ρ H ρ (upd H a u):=by
 have ha:a∈ρ.r:=List.mem_of_getElem? hk
 have hb:a∈ρ.b:=P3.dA.mpr (.inl ⟨ha,hf⟩)
 have nz:∀b∈ρ.z,b≠a:=fun b hb z=>(w.zb b hb).2 (by rw[z];exact ha)
 have p:Pre ρ H ρ (upd H a u):=⟨fun b x e nb=>⟨by rw[bc (fun(z:b=a)=>nb (by rw[z];exact hb))];exact e,nb⟩,rfl,fun b o hb h=>by rw[bc (nz b hb)];exact h,fun _ _ h=>h⟩
 have hl:k < S.length:=by rw[←w.len];exact(List.getElem?_eq_some_iff.mp hk).1
 refine⟨⟨by rw[List.length_set];exact w.len,w.nd,fun j b x hj hx=>?_,fun b hb=>?_,fun j b hj hx=>?_,fun b hb=>?_,fun j b hj hx=>?_⟩,p⟩
 ·by_cases q:k=j
  ·subst q
   rw[hk] at hj;cases hj
   rw[List.getElem?_set_self hl] at hx;cases hx
   rw[aQ]
   exact r.pre p
  ·rw[List.getElem?_set_ne q] at hx
   have ne:b≠a:=fun z=>by subst z;exact q (w.nd k j b hk hj)
   rw[bc ne]
   exact(w.ob j b x hj hx).pre p
 ·obtain⟨⟨o,ho⟩,nb⟩:=w.zb b hb
  exact⟨⟨o,by rw[bc (nz b hb)];exact ho⟩,nb⟩
 ·by_cases q:k=j
  ·subst q
   rw[hk] at hj;cases hj
   exact hf
  ·rw[List.getElem?_set_ne q] at hx
   exact w.fz j b hj hx
 ·obtain⟨o,ho⟩:=w.ff b hb
  exact⟨o,by rw[bc (fun z=>hf (by rw[←z];exact hb))];exact ho⟩
 ·by_cases q:k=j
  ·subst q
   rw[List.getElem?_set_self hl] at hx;cases hx
   exact absurd rfl hne
  ·rw[List.getElem?_set_ne q] at hx
   exact w.fi j b hj hx
theorem SW.iE{K:PySem.W.Frag}{cl:Nat→Addr}{ρ:P3}{H:Hp}{S:aH}(w:SW K cl ρ H S){k:Nat}{a:Addr}{ds:List D}(hk:ρ.r[k]? =some a)(hS:S[k]? =some (.lst ds)) :
 SW K cl ⟨ρ.r,ρ.z,a ::ρ.f⟩ H (S.set k .iE)∧Pre ρ H ⟨ρ.r,ρ.z,a ::ρ.f⟩ H∧Rep K (⟨ρ.r,ρ.z,a ::ρ.f⟩:P3).b H (.lst ds) (.ref a):=by
 have hl:k < S.length:=by rw[←w.len];exact(List.getElem?_eq_some_iff.mp hk).1
 have sub:∀b,b∈(⟨ρ.r,ρ.z,a ::ρ.f⟩:P3).b→b∈ρ.b:=fun b hb=>by
  rcases P3.dA.mp hb with⟨z,n⟩ | z
  ·exact P3.dA.mpr (.inl ⟨z,fun h=>n (List.mem_cons_of_mem _ h)⟩)
  ·exact P3.dA.mpr (.inr z)
 have p:Pre ρ H ⟨ρ.r,ρ.z,a ::ρ.f⟩ H:=⟨fun b o e nb=>⟨e,fun hb=>nb (sub b hb)⟩,rfl,fun _ _ _ h=>h,fun _ _ h=>h⟩
 obtain⟨xs,e1,r1⟩:=w.ob k a _ hk hS
 refine⟨⟨by rw[List.length_set];exact w.len,w.nd,fun j b x hj hx=>?_,w.zb,fun j b hj hx=>?_,fun b hb=>?_,fun j b hj hx=>?_⟩,p,?_⟩
 ·by_cases q:k=j
  ·subst q
   rw[List.getElem?_set_self hl] at hx;cases hx
   rw[hk] at hj;cases hj
   exact⟨_,e1⟩
  ·rw[List.getElem?_set_ne q] at hx
   exact(w.ob j b x hj hx).pre p
 ·by_cases q:k=j
  ·subst q
   rw[List.getElem?_set_self hl] at hx
   exact absurd rfl hx
  ·rw[List.getElem?_set_ne q] at hx
   intro h
   rcases List.mem_cons.mp h with z | z
   ·subst z;exact q (w.nd k j b hk hj)
   ·exact w.fz j b hj hx z
 ·rcases List.mem_cons.mp hb with z | z
  ·subst z;exact⟨_,e1⟩
  ·exact w.ff b z
 ·by_cases q:k=j
  ·subst q
   rw[hk] at hj;cases hj
   exact List.mem_cons_self
  ·rw[List.getElem?_set_ne q] at hx
   exact List.mem_cons_of_mem _ (w.fi j b hj hx)
 ·refine Rep.lst.mpr ⟨a,xs,rfl, .inl ⟨fun hb=>?_, .inl e1⟩,r1.bo p.bo⟩
  rcases P3.dA.mp hb with⟨_,n⟩ | z
  ·exact n List.mem_cons_self
  ·exact(w.zb a z).2 (List.mem_of_getElem? hk)
mutual
noncomputable def md:D→Bool
 | .lst _=>false
 | .dct _ _=>false
 | .tup ds=>k8 ds
 | _=>true
noncomputable def k8:List D→Bool
 | []=>true
 | d ::ds=>md d && k8 ds
end
mutual
theorem Rep.tS{K:PySem.W.Frag}{B:List Addr}{H:Hp}(hB:∀b∈B,∀xs,¬Rd H b (.tup xs)):∀{d:D} {v:V},md d=true→Rep K [] H d v→Rep K B H d v
 | .cK,v,_,r=>Rep.cK.mpr (Rep.cK.mp r)
 | .bl _,v,_,r=>Rep.bl.mpr (Rep.bl.mp r)
 | .int _,v,_,r=>Rep.int.mpr (Rep.int.mp r)
 | .str _,v,_,r=>Rep.str.mpr (Rep.str.mp r)
 | .lst _,v,h,_=>by unfold md at h;cases h
 | .dct _ _,v,h,_=>by unfold md at h;cases h
 | .tup ds,v,h,r=>by
   unfold md at h
   obtain⟨a,xs,rfl,l,rs⟩:=Rep.tup.mp r
   exact Rep.tup.mpr ⟨a,xs,rfl,l.elim (fun z=> .inl ⟨fun hb=>hB a hb xs z.2,z.2⟩) .inr,aC.tS hB h rs⟩
theorem aC.tS{K:PySem.W.Frag}{B:List Addr}{H:Hp}(hB:∀b∈B,∀xs,¬Rd H b (.tup xs)):∀{ds:List D} {vs:List V},k8 ds=true→aC K [] H ds vs→aC K B H ds vs
 | [],_,_,r=>by unfold aC at r;subst r;exact aC.nil
 | d ::ds,vs,h,r=>by
   unfold k8 at h
   obtain⟨h1,h2⟩:=Bool.and_eq_true_iff.mp h
   obtain⟨x,xs,rfl,r1,r2⟩:=r.bJ
   exact aC.cons (Rep.tS hB h1 r1) (aC.tS hB h2 r2)
end
theorem SW.nt{K:PySem.W.Frag}{cl:Nat→Addr}{ρ:P3}{H:Hp}{S:aH}(w:SW K cl ρ H S):∀b∈ρ.b,∀xs,¬Rd H b (.tup xs):=fun b hb xs h=>by
 have key:∀o,H b=some o→(∀xs,o≠ .tup xs)→(∀ob xs,o≠ .iE ob (.tup xs))→False:=fun o e h1 h2=>by
  rcases h with z | ⟨ob,z⟩
  ·rw[e] at z;cases z;exact h1 _ rfl
  ·rw[e] at z;cases z;exact h2 _ _ rfl
 rcases P3.dA.mp hb with⟨z,n⟩ | z
 ·obtain⟨k,hk⟩:=List.getElem?_of_mem z
  have hl:=(List.getElem?_eq_some_iff.mp hk).1
  have hS:S[k]? =some (S[k]'(by rw[←w.len];exact hl)):=List.getElem?_eq_getElem (by rw[←w.len];exact hl)
  have r:=w.ob k b _ hk hS
  generalize S[k]'(by rw[←w.len];exact hl)=o at r hS
  cases o with
  | lst ds=>obtain⟨ys,e,_⟩:=r;exact key _ e (fun _ q=>by cases q) (fun _ _ q=>by cases q)
  | dct kvs=>obtain⟨ys,e,_⟩:=r;exact key _ e (fun _ q=>by cases q) (fun _ _ q=>by cases q)
  | ins c fs=>obtain⟨dx,ys,e,_⟩:=r;exact key _ e (fun _ q=>by cases q) (fun _ _ q=>by cases q)
  | iE=>exact n (w.fi k b hk hS)
 ·obtain⟨⟨ys,e⟩,_⟩:=w.zb b z
  exact key _ e (fun _ q=>by cases q) (fun _ _ q=>by cases q)
noncomputable abbrev DE:=List (Option V3)
structure eM (K:PySem.W.Frag) (cl:Nat→Addr) (ρ:P3) (H:Hp) (S:aH) (σ:L2.St) (δ:DE):Prop where
 len:δ.length=σ.length
 sw:SW K cl ρ H S
 val:∀(i:Nat) (d:V3),δ[i]? =some (some d)→∃v,σ[i]? =some (some v)∧aZ K ρ H d v
theorem eM.to{K:PySem.W.Frag}{cl:Nat→Addr}{ρ ρ':P3}{H H':Hp}{S S':aH}{σ:L2.St}{δ:DE}(E:eM K cl ρ H S σ δ)(p:Pre ρ H ρ' H')(w:SW K cl ρ' H' S'):eM K cl ρ' H' S' σ δ:=
 ⟨E.len,w,fun i d e=>let⟨v,h1,h2⟩:=E.val i d e;⟨v,h1,h2.pre p⟩⟩
theorem eM.set{K:PySem.W.Frag}{cl:Nat→Addr}{ρ:P3}{H:Hp}{S:aH}{σ:L2.St}{δ:DE}(E:eM K cl ρ H S σ δ){i:Nat}{d:V3}{v:V}(hi:i < σ.length)(r:aZ K ρ H d v):eM K cl ρ H S (σ.set i (some v)) (δ.set i (some d)):=
 ⟨by rw[List.length_set,List.length_set];exact E.len,E.sw,fun j d' e=>by
   by_cases h:i=j
   ·subst h
    rw[List.getElem?_set_self (by rw[E.len];exact hi)] at e
    cases e
    exact⟨v,List.getElem?_set_self hi,r⟩
   ·rw[List.getElem?_set_ne h] at e ⊢
    exact E.val j d' e⟩
noncomputable def down(δ:DE):aw:=δ.map fun x=>match x with | some (.d d)=> .val d | _=> .un
theorem eM.down{K:PySem.W.Frag}{cl:Nat→Addr}{ρ:P3}{H:Hp}{S:aH}{σ:L2.St}{δ:DE}(E:eM K cl ρ H S σ δ):dU K [] ρ.b H σ (down δ) where
 len:=by unfold L3.down;rw [List.length_map];exact E.len
 bs:=E.sw.bs
 zb:=fun a ha=>by cases ha
 val:=fun i d e=>by
  unfold L3.down at e
  rw[List.getElem?_map] at e
  cases q:δ[i]? with
  | none=>rw [q] at e;cases e
  | some x=>
    rw[q] at e
    match x,e,q with
    | some (.d y),e,q=>
      cases e
      obtain⟨v,h1,h2⟩:=E.val i _ q
      unfold aZ at h2
      exact⟨v,h1,h2⟩
    | some (.loc k),e,q=>cases e
    | some (.lst k),e,q=>cases e
    | some (.tup k),e,q=>cases e
    | none,e,q=>cases e
 bld:=fun i ds e=>by
  unfold L3.down at e
  rw[List.getElem?_map] at e
  cases q:δ[i]? with
  | none=>rw [q] at e;cases e
  | some x=>
    rw[q] at e
    match x,e with
    | some (.d y),e=>cases e
    | some (.loc k),e=>cases e
    | some (.lst k),e=>cases e
    | some (.tup k),e=>cases e
    | none,e=>cases e
 dis:=fun i j a ds es e=>by
  unfold L3.down at e
  rw[List.getElem?_map] at e
  cases q:δ[i]? with
  | none=>rw [q] at e;cases e
  | some x=>
    rw[q] at e
    match x,e with
    | some (.d y),e=>cases e
    | some (.loc k),e=>cases e
    | some (.lst k),e=>cases e
    | some (.tup k),e=>cases e
    | none,e=>cases e
mutual
noncomputable def res(S:aH):V3→Option D
 | .d x=>some x
 | .loc k=>(match S[k]? with | some (.lst ds)=>some (.lst ds) | _=>none)
 | .lst vs=>(lx S vs).map D.lst
 | .tup vs=>(lx S vs).map D.tup
noncomputable def lx(S:aH):List V3→Option (List D)
 | []=>some []
 | v ::vs=>(res S v).bind fun d=>(lx S vs).map (d ::·)
end
noncomputable def cD(S:aH)(δ:DE):aw:=δ.map fun x=>match x with | some v=>(match res S v with | some d=> .val d | none=> .un) | none=> .un
theorem nh{α β:Type}{o:Option α}{f:α→β}{b:β}(h:o.map f=some b):∃a,o=some a∧f a=b:=by
 cases o with
 | none=>cases h
 | some a=>cases h;exact⟨a,rfl,rfl⟩
theorem vB{α β:Type}{o:Option α}{f:α→Option β}{b:β}(h:o.bind f=some b):∃a,o=some a∧f a=some b:=by
 cases o with
 | none=>cases h
 | some a=>exact⟨a,rfl,h⟩
mutual
noncomputable def fw(n:Nat):V3→Bool
 | .d _=>true
 | .loc k=>decide (n≤k)
 | .lst vs=>l_ n vs
 | .tup vs=>l_ n vs
noncomputable def l_(n:Nat):List V3→Bool
 | []=>true
 | v ::vs=>fw n v && l_ n vs
end
mutual
theorem aZ.resB{K:PySem.W.Frag}{cl:Nat→Addr}{ρ:P3}{H:Hp}{S:aH}{B':List Addr}{n:Nat}(w:SW K cl ρ H S)(p:dq ρ.b H B' H)(hn:∀(k:Nat) (a:Addr),n≤k→ρ.r[k]? =some a→a ∉ B'):∀{v:V3} {d:D} {x:V},fw n v=true→res S v=some d→aZ K ρ H v x→Rep K B' H d x
 | .d y,d,x,_,h,r=>by unfold L3.res at h;cases h;unfold aZ at r;exact r.bo p
 | .loc k,d,x,g,h,r=>by
   unfold L3.res at h
   unfold aZ at r
   unfold fw at g
   obtain⟨a,h1,rfl⟩:=r
   split at h
   ·rename_i ds e
    cases h
    obtain⟨xs,e2,q⟩:=w.ob k a _ h1 e
    unfold Rep
    exact⟨a,xs,rfl, .inl ⟨hn k a (of_decide_eq_true g) h1, .inl e2⟩,q.bo p⟩
   ·cases h
 | .lst vs,d,x,g,h,r=>by
   unfold L3.res at h
   unfold fw at g
   obtain⟨ds,e,rfl⟩:=nh h
   unfold aZ at r
   obtain⟨a,xs,rfl,l,r⟩:=r
   unfold Rep
   exact⟨a,xs,rfl,l.bo p,az.resB w p hn g e r⟩
 | .tup vs,d,x,g,h,r=>by
   unfold L3.res at h
   unfold fw at g
   obtain⟨ds,e,rfl⟩:=nh h
   unfold aZ at r
   obtain⟨a,xs,rfl,l,r⟩:=r
   unfold Rep
   exact⟨a,xs,rfl,qZ.bo p l,az.resB w p hn g e r⟩
theorem az.resB{K:PySem.W.Frag}{cl:Nat→Addr}{ρ:P3}{H:Hp}{S:aH}{B':List Addr}{n:Nat}(w:SW K cl ρ H S)(p:dq ρ.b H B' H)(hn:∀(k:Nat) (a:Addr),n≤k→ρ.r[k]? =some a→a ∉ B'):∀{vs:List V3} {ds:List D} {xs:List V},l_ n vs=true→lx S vs=some ds→az K ρ H vs xs→aC K B' H ds xs
 | [],ds,xs,_,h,r=>by unfold lx at h;cases h;unfold az at r;subst r;exact aC.nil
 | v ::vs,ds,xs,g,h,r=>by
   unfold lx at h
   unfold l_ at g
   obtain⟨g1,g2⟩:=Bool.and_eq_true_iff.mp g
   obtain⟨d,e1,h2⟩:=vB h
   obtain⟨es,e2,rfl⟩:=nh h2
   obtain⟨y,ys,rfl,r1,r2⟩:=r.bJ
   exact aC.cons (aZ.resB w p hn g1 e1 r1) (az.resB w p hn g2 e2 r2)
end
mutual
theorem qY:∀v:V3,fw 0 v=true
 | .d _=>by unfold fw;rfl
 | .loc k=>by unfold fw;exact decide_eq_true (Nat.zero_le _)
 | .lst vs=>by unfold fw;exact ll vs
 | .tup vs=>by unfold fw;exact ll vs
theorem ll:∀vs:List V3,l_ 0 vs=true
 | []=>by unfold l_;rfl
 | v ::vs=>by unfold l_;rw [qY v,ll vs];rfl
end
theorem aZ.res{K:PySem.W.Frag}{cl:Nat→Addr}{ρ:P3}{H:Hp}{S:aH}(w:SW K cl ρ H S){v:V3}{d:D}{x:V}(h:res S v=some d)(r:aZ K ρ H v x):Rep K [] H d x:=
 r.resB w (fun b o e _=>⟨e,by simp⟩) (n:=0) (fun _ _ _ _=>by simp) (qY v) h
theorem m4{S:aH}{δ:DE}{i:Nat}{y:Sl}(e:(cD S δ)[i]? =some y):(∃v d,δ[i]? =some (some v)∧res S v=some d∧y= .val d)∨y= .un:=by
 unfold cD at e
 rw[List.getElem?_map] at e
 cases q:δ[i]? with
 | none=>rw [q] at e;cases e
 | some x=>
   rw[q] at e
   cases x with
   | none=>cases e;exact .inr rfl
   | some v=>
     cases z:res S v with
     | none=>
       have e:some (match res S v with | some d=>Sl.val d | none=> .un)=some y:=e
       rw[z] at e;cases e;exact .inr rfl
     | some d=>
       have e:some (match res S v with | some d=>Sl.val d | none=> .un)=some y:=e
       rw[z] at e;cases e;exact .inl ⟨v,d,rfl,z,rfl⟩
theorem eM.cD{K:PySem.W.Frag}{cl:Nat→Addr}{ρ:P3}{H:Hp}{S:aH}{σ:L2.St}{δ:DE}(E:eM K cl ρ H S σ δ):dU K [] [] H σ (cD S δ) where
 len:=by unfold L3.cD;rw [List.length_map];exact E.len
 bs:=fun a ha=>by cases ha
 zb:=fun a ha=>by cases ha
 val:=fun i d e=>by
  rcases m4 e with⟨v,d',h1,h2,h3⟩ | h
  ·cases h3
   obtain⟨x,q1,q2⟩:=E.val i v h1
   exact⟨x,q1,q2.res E.sw h2⟩
  ·cases h
 bld:=fun i ds e=>by
  rcases m4 e with⟨v,d',h1,h2,h3⟩ | h
  ·cases h3
  ·cases h
 dis:=fun i j a ds es e=>by
  rcases m4 e with⟨v,d',h1,h2,h3⟩ | h
  ·cases h3
  ·cases h
noncomputable abbrev FX:=DE→aH→R3 V3
noncomputable abbrev FB:=DE→aH→R3 Bool
noncomputable abbrev FA:=DE→aH→R3 (List V3)
noncomputable def tX(K:PySem.W.Frag)(cl:Nat→Addr)(f:FX):TE:=fun σ H Q=>∃ρ S δ v S',eM K cl ρ H S σ δ∧f δ S= .ok v S'∧∀u ρ' H',Pre ρ H ρ' H'→SW K cl ρ' H' S'→aZ K ρ' H' v u→Q u H'
noncomputable def Ge(K:PySem.W.Frag)(cl:Nat→Addr)(f:FB):TT:=fun σ H Q=>∃ρ S δ b S',eM K cl ρ H S σ δ∧f δ S= .ok b S'∧∀ρ' H',Pre ρ H ρ' H'→SW K cl ρ' H' S'→Q b H'
noncomputable def Ju(K:PySem.W.Frag)(cl:Nat→Addr)(f:FA):TA:=fun σ H Q=>∃ρ S δ vs S',eM K cl ρ H S σ δ∧f δ S= .ok vs S'∧∀us ρ' H',Pre ρ H ρ' H'→SW K cl ρ' H' S'→az K ρ' H' vs us→Q us H'
structure PX (X:Cx) (cl:Nat→Addr) (e:Expr) (f:FX):Prop where
 go:PE X e (tX X.K cl f)
structure yH (X:Cx) (cl:Nat→Addr) (e:Expr) (f:FB):Prop where
 go:PT X e (Ge X.K cl f)
structure zO (X:Cx) (cl:Nat→Addr) (es:List Expr) (f:FA):Prop where
 go:PA X es (Ju X.K cl f)
section
variable {X:Cx} {cl:Nat→Addr}
noncomputable def xP(f:FD):FX:=fun δ S=>(R3.of (f (down δ)) S).bind fun d S=> .ok (.d d) S
theorem ai{e:Expr}{f:FD}(h:QD X e f):PX X cl e (xP f):=⟨h.1.imp fun σ H Q ⟨ρ,S,δ,v,S',E,hf,q⟩=>by
 obtain⟨d,S1,h1,h2⟩:=R3.aj hf
 obtain⟨h3,e3⟩:=R3.of_ok h1
 cases h2
 subst e3
 exact⟨[],ρ.b,down δ,d,E.down,h3,fun v H' s r=>q v ρ H' (Pre.same s) (E.sw.same s) (by unfold aZ;exact r)⟩⟩
noncomputable def xT(f:FD):FX:=fun δ S=>(R3.of (f (cD S δ)) S).bind fun d S=>R3.bE (md d) (.ok (.d d) S)
theorem dc{e:Expr}{f:FD}(h:QD X e f):PX X cl e (xT f):=⟨h.1.imp fun σ H Q ⟨ρ,S,δ,v,S',E,hf,q⟩=>by
 obtain⟨d,S1,h1,h2⟩:=R3.aj hf
 obtain⟨h4,e3⟩:=R3.of_ok h1
 obtain⟨ha,h3⟩:=R3.bf h2
 cases h3
 subst e3
 exact⟨[],[],cD _ δ,d,E.cD,h4,fun v H' s r=>q v ρ H' (Pre.same s) (E.sw.same s) (by unfold aZ;exact Rep.tS (E.sw.same s).nt ha r)⟩⟩
noncomputable def bP(f:aw→R Bool):FB:=fun δ S=>R3.of (f (down δ)) S
theorem fF{e:Expr}{f:aw→R Bool}(h:QB X e f):yH X cl e (bP f):=⟨h.1.imp fun σ H Q ⟨ρ,S,δ,v,S',E,hf,q⟩=>by
 obtain⟨h1,e3⟩:=R3.of_ok hf
 subst e3
 exact⟨[],ρ.b,down δ,v,E.down,h1,fun H' s=>q ρ H' (Pre.same s) (E.sw.same s)⟩⟩
noncomputable def bT(f:aw→R Bool):FB:=fun δ S=>R3.of (f (cD S δ)) S
theorem mD{e:Expr}{f:aw→R Bool}(h:QB X e f):yH X cl e (bT f):=⟨h.1.imp fun σ H Q ⟨ρ,S,δ,v,S',E,hf,q⟩=>by
 obtain⟨h1,e3⟩:=R3.of_ok hf
 subst e3
 exact⟨[],[],cD _ δ,v,E.cD,h1,fun H' s=>q ρ H' (Pre.same s) (E.sw.same s)⟩⟩
noncomputable def bK(i:Nat):FX:=fun δ S=>match δ[i]? with | some (some v)=> .ok v S | _=> .no
theorem aL(i:Nat){x:Str}{pos:Pos}(hN:X.N[i]? =some x:=by rfl)(hv:BM X.env.scope x:=by first | exact Or.inl rfl | exact Or.inr (Or.inl rfl) | exact Or.inr (Or.inr rfl))(hd:(x==("__debug__":Str))=false:=by decide)
 (hcd:(x==("__classdict__":Str))=false:=by decide):PX X cl (.Name x pos) (bK i):=⟨(ng hN hv hd hcd).imp fun σ H Q ⟨ρ,S,δ,v,S',E,hf,q⟩=>by
 unfold bK at hf
 split at hf
 ·rename_i d' e
  cases hf
  obtain⟨u,h1,h2⟩:=E.val i _ e
  exact⟨u,h1,q u ρ H (Pre.refl ρ H) E.sw h2⟩
 ·cases hf⟩
noncomputable def lH(f:aw→R (List D)):FX:=fun δ S=>(R3.of (f (down δ)) S).bind fun ds S=> .ok (.loc S.length) (S++[.lst ds])
theorem fW{e:Expr}{f:aw→R (List D)}(h:QN X e f):PX X cl e (lH f):=⟨h.1.imp fun σ H Q ⟨ρ,S,δ,v,S',E,hf,q⟩=>by
 obtain⟨ds,S1,h1,h2⟩:=R3.aj hf
 obtain⟨h3,e3⟩:=R3.of_ok h1
 cases h2
 subst e3
 refine⟨[],ρ.b,down δ,ds,E.down,h3,fun a xs H' s n e r=>?_⟩
 have r':aC X.K (ρ.push a).b H' ds xs:=r.bo fun b o e nb=>⟨e,fun hb=>nb (by
  rcases P3.mem_push hb with z | z
  ·exact List.mem_cons_of_mem _ z
  ·subst z;exact List.mem_cons_self)⟩
 obtain⟨w,p⟩:=E.sw.new (o:= .lst ds) s n ⟨xs,e,r'⟩
 exact q _ _ H' p w (by unfold aZ;exact⟨a,by show(ρ.r++[a])[_]? =_;rw [←E.sw.len,List.getElem?_append_right (by omega),Nat.sub_self];rfl,rfl⟩)⟩
end
end L3
end
section
set_option maxRecDepth 100000
set_option maxHeartbeats 4000000
namespace L3
open PySem PySem.Spec PyProof.Rows L2
section
variable {X:Cx} {cl:Nat→Addr}
noncomputable def bU:FA:=fun _ S=> .ok [] S
noncomputable def av(f:FX)(g:FA):FA:=fun δ S=>(f δ S).bind fun v S1=>(g δ S1).bind fun vs S2=> .ok (v ::vs) S2
theorem aD:zO X cl [] bU:=⟨gH.imp fun σ H Q ⟨ρ,S,δ,v,S',E,hf,q⟩=>by
 cases hf
 exact q [] ρ H (Pre.refl ρ H) E.sw az.nil⟩
theorem ab{e:Expr}{es:List Expr}{f:FX}{g:FA}(h:PX X cl e f)(t:zO X cl es g)(hs:starEach (e ::es) X.env=(false,eval e X.env) ::starEach es X.env:=by rfl):zO X cl (e ::es) (av f g):=
 ⟨(eT h.1 t.1 hs).imp fun σ H Q ⟨ρ,S,δ,v,S',E,hf,q⟩=>by
   obtain⟨v1,S1,h1,h2⟩:=R3.aj hf
   obtain⟨vs,S2,h3,h4⟩:=R3.aj h2
   cases h4
   exact⟨ρ,S,δ,v1,S1,E,h1,fun u ρ1 H1 p1 w1 r1=>⟨ρ1,S1,δ,vs,_,E.to p1 w1,h3,fun us ρ2 H2 p2 w2 r2=>q _ ρ2 H2 (p1.trans p2) w2 (az.cons (r1.pre p2) r2)⟩⟩⟩
noncomputable def jF:List V3→Option (List D)
 | []=>some []
 | .d x ::r=>(jF r).map (x ::·)
 | _ ::_=>none
theorem gS:∀{vs:List V3} {ds:List D},jF vs=some ds→vs=ds.map .d
 | [],ds,h=>by cases h;rfl
 | .d x ::r,ds,h=>by
   cases e:jF r with
   | none=>have h:(jF r).map (x ::·)=some ds:=h;rw [e] at h;cases h
   | some es=>
     have h:(jF r).map (x ::·)=some ds:=h
     rw[e] at h
     cases h
     rw[gS e]
     rfl
 | .loc _ ::_,_,h=>by cases h
 | .lst _ ::_,_,h=>by cases h
 | .tup _ ::_,_,h=>by cases h
theorem pL:∀ds:List D,jF (ds.map .d)=some ds
 | []=>rfl
 | d ::ds=>by show(jF (ds.map .d)).map (d ::·)=_;rw [pL ds];rfl
noncomputable def j3(vs:List V3):V3:=match jF vs with | some ds=> .d (.tup ds) | none=> .tup vs
noncomputable def iy(vs:List V3):V3:=match jF vs with | some ds=> .d (.lst ds) | none=> .lst vs
noncomputable def uq(g:FA):FX:=fun δ S=>(g δ S).bind fun vs S=>R3.bE (decide (vs.length≤sizeLine)) (.ok (j3 vs) S)
theorem kM{ρ:P3}{H:Hp}{p:Addr}{o:HO}(hp:H p=none):Pre ρ H ρ (upd H p o):=Pre.same (aP hp)
theorem yn{K:PySem.W.Frag}{ρ:P3}{H:Hp}{vs:List V3}{xs:List V}{a:Addr}(l:qZ K ρ.b H a xs)(r:az K ρ H vs xs):aZ K ρ H (j3 vs) (.ref a):=by
 unfold j3
 split
 ·rename_i ds e
  rw[gS e] at r
  unfold aZ Rep
  exact⟨a,xs,rfl,l,r.to⟩
 ·unfold aZ
  exact⟨a,xs,rfl,l,r⟩
theorem qM{K:PySem.W.Frag}{ρ:P3}{H:Hp}{vs:List V3}{xs:List V}{a:Addr}(l:qd K ρ.b H a xs)(r:az K ρ H vs xs):aZ K ρ H (iy vs) (.ref a):=by
 unfold iy
 split
 ·rename_i ds e
  rw[gS e] at r
  unfold aZ Rep
  exact⟨a,xs,rfl,l,r.to⟩
 ·unfold aZ
  exact⟨a,xs,rfl,l,r⟩
theorem mU{es:List Expr}{g:FA}{x1 pos}(h:zO X cl es g):PX X cl (.Tuple es x1 pos) (uq g):=⟨(zC h.1).imp fun σ H Q ⟨ρ,S,δ,v,S',E,hf,q⟩=>by
 obtain⟨vs,S1,h1,h2⟩:=R3.aj hf
 obtain⟨hl,h3⟩:=R3.bf h2
 cases h3
 refine⟨ρ,S,δ,vs,_,E,h1,fun us ρ1 H1 p1 w1 r1=>⟨by rw[←r1.length];exact of_decide_eq_true hl,fun p hp=>q _ ρ1 _ (p1.trans (kM hp)) (w1.same (aP hp)) ?_⟩⟩
 refine yn (.inl ⟨fun ha=>?_, .inl aQ⟩) (r1.pre (kM hp))
 obtain⟨o,ho⟩:=w1.bs p ha
 rw[hp] at ho;cases ho⟩
noncomputable def EA(g:FA):FX:=fun δ S=>(g δ S).bind fun vs S=>R3.bE (decide (vs.length≤sizeLine)) (.ok (iy vs) S)
theorem E7{es:List Expr}{g:FA}{pos}(h:zO X cl es g):PX X cl (.List es pos) (EA g):=⟨(A8 h.1).imp fun σ H Q ⟨ρ,S,δ,v,S',E,hf,q⟩=>by
 obtain⟨vs,S1,h1,h2⟩:=R3.aj hf
 obtain⟨hl,h3⟩:=R3.bf h2
 cases h3
 refine⟨ρ,S,δ,vs,_,E,h1,fun us ρ1 H1 p1 w1 r1=>⟨by rw[←r1.length];exact of_decide_eq_true hl,fun p hp=>q _ ρ1 _ (p1.trans (kM hp)) (w1.same (aP hp)) ?_⟩⟩
 refine qM (.inl ⟨fun ha=>?_, .inl aQ⟩) (r1.pre (kM hp))
 obtain⟨o,ho⟩:=w1.bs p ha
 rw[hp] at ho;cases ho⟩
noncomputable def x2(g:D→D→R D)(fa fb:FX):FX:=fun δ S=>(fa δ S).bind fun a S1=>(fb δ S1).bind fun b S2=>match a,b with
 | .d x, .d y=>(R3.of (g x y) S2).bind fun d S=> .ok (.d d) S
 | _,_=> .no
theorem EB{K:PySem.W.Frag}{g:D→D→R D}{fa fb:FX}{σ:L2.St}{H:Hp}{Q:VK}(h:tX K cl (x2 g fa fb) σ H Q) :
 Gi (fun x y H Q=>∃B da db d,(∀a∈B,∃o,H a=some o)∧Rep K B H da x∧Rep K B H db y∧g da db= .ok d∧∀z H',aS H H'→Rep K B H' d z→Q z H') (tX K cl fa) (tX K cl fb) σ H Q:=by
 obtain⟨ρ,S,δ,v,S',E,hf,q⟩:=h
 obtain⟨a,S1,h1,h2⟩:=R3.aj hf
 obtain⟨b,S2,h3,h4⟩:=R3.aj h2
 match a,b,h1,h3,h4 with
 | .d x, .d y,h1,h3,h4=>
   obtain⟨d,S3,h5,h6⟩:=R3.aj h4
   obtain⟨h7,e⟩:=R3.of_ok h5
   cases h6
   subst e
   refine⟨ρ,S,δ, .d x,S1,E,h1,fun u1 ρ1 H1 p1 w1 r1=>⟨ρ1,S1,δ, .d y,_,E.to p1 w1,h3,fun u2 ρ2 H2 p2 w2 r2=>?_⟩⟩
   have r1':=r1.pre p2
   unfold aZ at r1' r2
   exact⟨ρ2.b,x,y,d,w2.bs,r1',r2,h7,fun z H' s r=>q z ρ2 H' (p1.trans (p2.trans (Pre.same s))) (w2.same s) (by unfold aZ;exact r)⟩
 | .d x, .loc _,_,_,h4=>cases h4
 | .d x, .lst _,_,_,h4=>cases h4
 | .d x, .tup _,_,_,h4=>cases h4
 | .loc _,_,_,_,h4=>cases h4
 | .lst _,_,_,_,h4=>cases h4
 | .tup _,_,_,_,h4=>cases h4
theorem tH{op:Operator}{g:D→D→R D}{a b:Expr}{fa fb:FX}{pos:Pos}(ho:jB X (binaryOp op) g)(ha:PX X cl a fa)(hb:PX X cl b fb):PX X cl (.BinOp a op b pos) (x2 g fa fb):=
 ⟨(Ag ho.r ha.1 hb.1).imp fun σ H Q h=>EB h⟩
theorem EH{op:CmpOp}{g:D→D→R D}{a b:Expr}{fa fb:FX}{pos:Pos}(ho:jB X (compareOp op) g)(ha:PX X cl a fa)(hb:PX X cl b fb)(hm:behindInMarks op b=false):PX X cl (.Compare a [op] [b] pos) (x2 g fa fb):=
 ⟨(xv ho.r ha.1 hb.1 hm).imp fun σ H Q h=>EB h⟩
noncomputable def HX(g:D→D→R D)(fa fb:FX):FB:=fun δ S=>(x2 g fa fb δ S).bind fun v S=>match v with | .d (.bl b)=> .ok b S | _=> .no
theorem xy{op:CmpOp}{g:D→D→R D}{a b:Expr}{fa fb:FX}{pos:Pos}(ho:jB X (compareOp op) g)(ha:PX X cl a fa)(hb:PX X cl b fb)(hm:behindInMarks op b=false):yH X cl (.Compare a [op] [b] pos) (HX g fa fb):=
 ⟨(xn ho.r ha.1 hb.1 hm).imp fun σ H Q ⟨ρ,S,δ,b,S',E,hf,q⟩=>by
   obtain⟨v,S1,h1,h2⟩:=R3.aj hf
   have hv:v= .d (.bl b)∧S1=S':=by
    match v,h2 with
    | .d (.bl k),h2=>cases h2;exact⟨rfl,rfl⟩
    | .d .cK,h2=>cases h2
    | .d (.int _),h2=>cases h2
    | .d (.str _),h2=>cases h2
    | .d (.lst _),h2=>cases h2
    | .d (.tup _),h2=>cases h2
    | .d (.dct _ _),h2=>cases h2
    | .loc _,h2=>cases h2
    | .lst _,h2=>cases h2
    | .tup _,h2=>cases h2
   obtain⟨rfl,rfl⟩:=hv
   exact EB (g:=g) (Q:=fun x H'=>∃k,x= .bl k∧Q k H') ⟨ρ,S,δ,_,_,E,h1,fun u ρ' H' p w r=>⟨b,by unfold aZ Rep at r;exact r,q ρ' H' p w⟩⟩⟩
inductive Ou where
 | nx (δ:DE) | rt (v:V3)
noncomputable abbrev FZ:=DE→aH→R3 Ou
noncomputable def Cn(K:PySem.W.Frag)(cl:Nat→Addr)(ρ:P3)(H:Hp)(D:Ends)(S':aH):Ou→Prop
 | .nx δ'=>∀σ' ρ' H',Pre ρ H ρ' H'→eM K cl ρ' H' S' σ' δ'→D.nx σ' H'
 | .rt v=>∀u ρ' H',Pre ρ H ρ' H'→SW K cl ρ' H' S'→aZ K ρ' H' v u→D.rt u H'
theorem Cn.pre{K:PySem.W.Frag}{ρ ρ1:P3}{H H1:Hp}{D:Ends}{S':aH}{o:Ou}(q:Cn K cl ρ H D S' o)(p:Pre ρ H ρ1 H1):Cn K cl ρ1 H1 D S' o:=by
 cases o with
 | nx δ'=>exact fun σ' ρ' H' p' E'=>q σ' ρ' H' (p.trans p') E'
 | rt d=>exact fun v ρ' H' p' w r=>q v ρ' H' (p.trans p') w r
noncomputable def sX(K:PySem.W.Frag)(cl:Nat→Addr)(F:FZ):TS:=fun D σ H=>∃ρ S δ o S',eM K cl ρ H S σ δ∧F δ S= .ok o S'∧Cn K cl ρ H D S' o
structure PZ (X:Cx) (cl:Nat→Addr) (st:Stmt) (F:FZ):Prop where
 go:PS X st (sX X.K cl F)
structure zl (X:Cx) (cl:Nat→Addr) (st:List Stmt) (F:FZ):Prop where
 go:sT X st (sX X.K cl F)
noncomputable def ku:FZ:=fun δ S=> .ok (.nx δ) S
noncomputable def bu(F G:FZ):FZ:=fun δ S=>(F δ S).bind fun o S1=>match o with | .nx δ'=>G δ' S1 | .rt d=> .ok (.rt d) S1
theorem eR:zl X cl [] ku:=⟨rO.imp fun D σ H ⟨ρ,S,δ,o,S',E,hf,q⟩=>by
 cases hf
 exact q σ ρ H (Pre.refl ρ H) E⟩
theorem au{st:Stmt}{rest:List Stmt}{F G:FZ}(h1:PZ X cl st F)(h2:zl X cl rest G):zl X cl (st ::rest) (bu F G):=⟨(pM h1.1 h2.1).imp fun D σ H ⟨ρ,S,δ,o,S',E,hf,q⟩=>by
 obtain⟨o1,S1,h1,h2⟩:=R3.aj hf
 refine⟨ρ,S,δ,o1,S1,E,h1,?_⟩
 cases o1 with
 | nx δ1=>
   intro σ1 ρ1 H1 p1 E1
   exact⟨ρ1,S1,δ1,o,S',E1,h2,q.pre p1⟩
 | rt d=>
   cases h2
   exact q⟩
theorem aK{st:Stmt}{F:FZ}(h1:PZ X cl st F):zl X cl [st] F:=⟨sP h1.1⟩
noncomputable def cy(i:Nat)(f:FX):FZ:=fun δ S=>(f δ S).bind fun v S=>R3.bE (decide (i < δ.length)) (.ok (.nx (δ.set i (some v))) S)
theorem bq{i:Nat}{x:Str}{e:Expr}{f:FX}{pos pos':Pos}(hN:X.N.Nodup)(hi:X.N[i]? =some x)(hx:Loc X.env.scope x)(he:PX X cl e f)(hs:swapsWith e (some (.Name x pos')) pos.line X.env=pure false:=by rfl)(hf:X.fn x=true∨X.env.scope.names.lookup x=some .local:=by first | exact .inl rfl | exact .inr rfl | assumption) :
 PZ X cl (.Assign [.Name x pos'] e pos) (cy i f):=⟨(vx hN hi hx he.1 hs hf).imp fun D σ H ⟨ρ,S,δ,o,S',E,hf,q⟩=>by
 obtain⟨v,S1,h1,h2⟩:=R3.aj hf
 obtain⟨hi,h3⟩:=R3.bf h2
 cases h3
 refine⟨ρ,S,δ,v,_,E,h1,fun u ρ1 H1 p1 w1 r1=>?_⟩
 exact q _ ρ1 H1 p1 ((E.to p1 w1).set (by rw[←E.len];exact of_decide_eq_true hi) r1)⟩
noncomputable def gG(f:FX):FZ:=fun δ S=>(f δ S).bind fun v S=> .ok (.rt v) S
theorem cN{e:Expr}{f:FX}{pos:Pos}(he:PX X cl e f):PZ X cl (.Return (some e) pos) (gG f):=⟨(BE he.1).imp fun D σ H ⟨ρ,S,δ,o,S',E,hf,q⟩=>by
 obtain⟨v,S1,h1,h2⟩:=R3.aj hf
 cases h2
 exact⟨ρ,S,δ,v,_,E,h1,fun u ρ1 H1 p1 w1 r1=>q u ρ1 H1 p1 w1 r1⟩⟩
noncomputable def sV(c:FB)(F G:FZ):FZ:=fun δ S=>(c δ S).bind fun b S=>if b then F δ S else G δ S
theorem i5{c:Expr}{a b:List Stmt}{fc:FB}{F G:FZ}{pos:Pos}(hc:yH X cl c fc)(ha:zl X cl a F)(hb:zl X cl b G):PZ X cl (.If c a b pos) (sV fc F G):=⟨(AE hc.1 ha.1 hb.1).imp fun D σ H ⟨ρ,S,δ,o,S',E,hf,q⟩=>by
 obtain⟨k,S1,h1,h2⟩:=R3.aj hf
 refine⟨ρ,S,δ,k,S1,E,h1,fun ρ1 H1 p1 w1=>?_⟩
 cases k with
 | true=>rw [if_pos rfl] at h2;exact Al ⟨ρ1,S1,δ,o,S',E.to p1 w1,h2,q.pre p1⟩
 | false=>rw [if_neg (by decide)] at h2;exact z8 ⟨ρ1,S1,δ,o,S',E.to p1 w1,h2,q.pre p1⟩⟩
noncomputable def JQ(f:FX):FZ:=fun δ S=>(f δ S).bind fun _ S=> .ok (.nx δ) S
noncomputable def wV(c:FB)(body:FZ):Nat→FZ
 | 0,_,_=> .no
 | n+1,δ,S=>(c δ S).bind fun b S=>if b then(body δ S).bind fun o S=>match o with | .nx δ2=>wV c body n δ2 S | .rt r=> .ok (.rt r) S else .ok (.nx δ) S
noncomputable def Jf(n:Nat)(c:FB)(body:FZ):FZ:=fun δ S=>wV c body n δ S
end
end L3
end
section
set_option maxRecDepth 100000
set_option maxHeartbeats 4000000
namespace L3
open PySem PySem.Spec PyProof.Rows L2
theorem az.get{K:PySem.W.Frag}{ρ:P3}{H:Hp}:∀{ds:List V3} {xs:List V} {i:Nat} {d:V3},az K ρ H ds xs→ds[i]? =some d→∃x,xs[i]? =some x∧aZ K ρ H d x
 | [],_,_,_,_,e=>by simp at e
 | d ::ds,xs,0,d',h,e=>by
   obtain⟨x,r,rfl,h1,h2⟩:=h.bJ
   simp at e;subst e
   exact⟨x,rfl,h1⟩
 | d ::ds,xs,i+1,d',h,e=>by
   obtain⟨x,r,rfl,h1,h2⟩:=h.bJ
   obtain⟨y,e1,e2⟩:=az.get (i:=i) h2 (by simpa using e)
   exact⟨y,by simpa using e1,e2⟩
noncomputable def Gk(K:PySem.W.Frag)(ρ:P3)(H:Hp)(J:It)(vs:List V3):Prop:=∀ρ' H',PW ρ H ρ' H'→(∀a∈ρ'.b,∃o,H' a=some o)→(∀(i:Nat) (d:V3),vs[i]? =some d→J.go i H'∧∀x H'',J.yld i H' x H''→aS H' H''∧aZ K ρ' H'' d x)∧J.stop vs.length H'
theorem Gk.of{K:PySem.W.Frag}{ρ:P3}{H:Hp}{J:It}{ds:List D}(h:Ar K ρ.b H J ds):Gk K ρ H J (ds.map .d):=fun ρ' H' p bs=>by
 obtain⟨h1,h2⟩:=h ρ'.b H' p.bo
 refine⟨fun i v hv=>?_,by rw[List.length_map];exact h2⟩
 rw[List.getElem?_map] at hv
 cases e:ds[i]? with
 | none=>rw [e] at hv;cases hv
 | some d=>
   rw[e] at hv
   cases hv
   obtain⟨g1,g2⟩:=h1 i d e
   exact⟨g1,fun x H'' y=>let⟨s,r⟩:=g2 x H'' y bs;⟨s,by unfold aZ;exact r⟩⟩
noncomputable def JU(K:PySem.W.Frag)(cl:Nat→Addr)(f:FA):TI:=fun σ H R=>∃ρ S δ vs S',eM K cl ρ H S σ δ∧f δ S= .ok vs S'∧∀J ρ1 H1,Pre ρ H ρ1 H1→SW K cl ρ1 H1 S'→Gk K ρ1 H1 J vs→R J H1
structure DS (X:Cx) (cl:Nat→Addr) (tg e:Expr) (f:FA):Prop where
 go:PI X tg e (JU X.K cl f)
section
variable {X:Cx} {cl:Nat→Addr}
noncomputable def iP(f:aw→R (List D)):FA:=fun δ S=>(R3.of (f (down δ)) S).bind fun ds S=> .ok (ds.map .d) S
theorem dg{tg e:Expr}{f:aw→R (List D)}(h:xU X tg e f):DS X cl tg e (iP f):=⟨h.1.imp fun σ H Q ⟨ρ,S,δ,vs,S',E,hf,q⟩=>by
 obtain⟨ds,S1,h1,h2⟩:=R3.aj hf
 obtain⟨h3,e3⟩:=R3.of_ok h1
 cases h2
 subst e3
 exact⟨[],ρ.b,down δ,ds,E.down,h3,fun J H1 s r=>q J ρ H1 (Pre.same s) (E.sw.same s) (Gk.of r)⟩⟩
noncomputable def lX(f:FX):FA:=fun δ S=>(f δ S).bind fun v S=>match v with | .d (.int j)=>R3.bE (decide (-(2 ^ 62)≤j∧j < 2 ^ 62)) (.ok ((dS 0 j.toNat).map .d) S) | _=> .no
theorem ia{tg a:Expr}{f:FX}{p pos:Pos}(h:PX X cl a f)(hg:Gl X "range")(hm:X.mg "range"=none)(hs:starEach [a] X.env=[(false,eval a X.env)]:=by rfl):DS X cl tg (.Call (.Name "range" p) [a] [] pos) (lX f):=
 ⟨(qE hg hm (eT h.1 gH hs) hs).imp fun σ H RR ⟨ρ,S,δ,vs,S',E,hf,q⟩=>by
   obtain⟨v,S1,h1,h2⟩:=R3.aj hf
   match v,h1,h2 with
   | .d (.int j),h1,h2=>
     obtain⟨hb,h3⟩:=R3.bf h2
     cases h3
     have hb:=of_decide_eq_true hb
     refine⟨ρ,S,δ, .d (.int j),_,E,h1,fun u ρ1 H1 p1 w1 r1=>⟨j,?_,hb.1,hb.2,q _ ρ1 H1 p1 w1 (Gk.of (Bq 0 _))⟩⟩
     unfold aZ Rep at r1
     rw[r1]
   | .d .cK,_,h2=>cases h2
   | .d (.bl _),_,h2=>cases h2
   | .d (.str _),_,h2=>cases h2
   | .d (.lst _),_,h2=>cases h2
   | .d (.tup _),_,h2=>cases h2
   | .d (.dct _ _),_,h2=>cases h2
   | .loc _,_,h2=>cases h2
   | .lst _,_,h2=>cases h2
   | .tup _,_,h2=>cases h2⟩
noncomputable def y8(f:FX):FA:=fun δ S=>(f δ S).bind fun v S=>match v with | .d (.lst ds)=> .ok (ds.map .d) S | .lst vs=> .ok vs S | _=> .no
theorem rQ{tg e:Expr}{f:FX}(h:PX X cl e f):DS X cl tg e (y8 f):=⟨by
 intro pins s σ H RR I ⟨ρ,S,δ,vs,S',E,hf,q⟩
 obtain⟨v,S1,h1,h2⟩:=R3.aj hf
 refine dR (h.1 pins s σ H (fun u H1=>∃ρ1,Pre ρ H ρ1 H1∧SW X.K cl ρ1 H1 S1∧aZ X.K ρ1 H1 v u) I ⟨ρ,S,δ,v,S1,E,h1,fun u ρ1 H1 p1 w1 r1=>⟨ρ1,p1,w1,r1⟩⟩) fun u s1 ⟨x,H1,I1,r1,ρ1,p1,w1,rr⟩=>?_
 have key:S1=S'∧∃a xs,x= .ref a∧qd X.K ρ1.b H1 a xs∧az X.K ρ1 H1 vs xs:=by
  match v,h2,rr with
  | .d (.lst ds),h2,rr=>
    cases h2
    unfold aZ Rep at rr
    obtain⟨a,xs,e,l,r⟩:=rr
    exact⟨rfl,a,xs,e,l,az.of r⟩
  | .lst ws,h2,rr=>
    cases h2
    unfold aZ at rr
    exact⟨rfl,rr⟩
  | .d .cK,h2,_=>cases h2
  | .d (.bl _),h2,_=>cases h2
  | .d (.int _),h2,_=>cases h2
  | .d (.str _),h2,_=>cases h2
  | .d (.tup _),h2,_=>cases h2
  | .d (.dct _ _),h2,_=>cases h2
  | .loc _,h2,_=>cases h2
  | .tup _,h2,_=>cases h2
 obtain⟨rfl,a,xs,rfl,l,rr⟩:=key
 cases r1
 obtain⟨its,rv,p,hz⟩:=I1.list l.sq
 refine wpAny_pyIter_list p.isList ?_
 refine⟨s1.heap.objs.size,[s1.heap.objs.size],_,_,H1,rfl,I1.kept (t':=s1.toks) fun b o e=>Heap.get?_push_of_some _ e,qR a _,⟨_,Heap.get?_push_size _ rfl,rfl,rfl⟩,fun b hb=>?_,q _ ρ1 H1 p1 w1 fun ρ' H' pr bs=>?_⟩
 ·have e:b=s1.heap.objs.size:=by simpa using hb
  subst e
  exact I1.ql (Nat.le_refl _) (I1.hok.fresh (Nat.le_refl _))
 ·have l':qd X.K ρ'.b H' a xs:=l.bo pr.bo
  have rr':=rr.pw pr
  refine⟨fun i d hd=>?_,⟨xs,l'.sq,by rw[rr.length];exact Nat.le_refl _⟩⟩
  obtain⟨x,hx,rx⟩:=rr'.get hd
  exact⟨⟨xs,x,l'.sq,hx⟩,fun y H'' ⟨e1,e2⟩=>by
   subst e1
   have:=e2 xs l'.sq
   rw[hx] at this
   cases this
   exact⟨aS.refl _,rx⟩⟩⟩
noncomputable abbrev FG:=V3→DE→Option DE
noncomputable abbrev CT:=List V3→DE→Option DE
noncomputable def gX(K:PySem.W.Frag)(cl:Nat→Addr)(t:FG):TG:=fun v σ H Q=>∃ρ S δ x δ',eM K cl ρ H S σ δ∧aZ K ρ H x v∧t x δ=some δ'∧∀σ' H',aS H H'→eM K cl ρ H' S σ' δ'→Q σ' H'
noncomputable def Ki(K:PySem.W.Frag)(cl:Nat→Addr)(t:CT):AJ:=fun v σ H Q=>∃ρ S δ x δ',eM K cl ρ H S σ δ∧az K ρ H x v∧t x δ=some δ'∧∀σ' H',aS H H'→eM K cl ρ H' S σ' δ'→Q σ' H'
structure DD (X:Cx) (cl:Nat→Addr) (tg:Expr) (t:FG):Prop where
 go:PG X tg (gX X.K cl t)
structure Df (X:Cx) (cl:Nat→Addr) (tg:List Expr) (t:CT):Prop where
 go:Di X tg (Ki X.K cl t)
theorem eM.same{K:PySem.W.Frag}{ρ:P3}{H H':Hp}{S:aH}{σ:L2.St}{δ:DE}(E:eM K cl ρ H S σ δ)(s:aS H H'):eM K cl ρ H' S σ δ:=E.to (Pre.same s) (E.sw.same s)
noncomputable def iG(i:Nat):FG:=fun d δ=>if i < δ.length then some (δ.set i (some d)) else none
theorem aW{i:Nat}{x:Str}{pos:Pos}(hN:X.N.Nodup)(hi:X.N[i]? =some x)(hx:Loc X.env.scope x)(hf:X.fn x=true∨X.env.scope.names.lookup x=some .local:=by first | exact .inl rfl | exact .inr rfl | assumption):DD X cl (.Name x pos) (iG i):=
 ⟨(xM hN hi hx hf).imp fun v σ H Q ⟨ρ,S,δ,d,δ',E,r,ht,q⟩=>by
   unfold iG at ht
   split at ht
   ·rename_i hi
    cases ht
    exact q _ H (aS.refl H) (E.set (by rw[←E.len];exact hi) r)
   ·cases ht⟩
noncomputable def u6:CT:=fun ds δ=>match ds with | []=>some δ | _=>none
noncomputable def oF(t:FG)(u:CT):CT:=fun ds δ=>match ds with | d ::r=>(t d δ).bind fun δ'=>u r δ' | []=>none
theorem gB:Df X cl [] u6:=⟨wZ.imp fun vs σ H Q ⟨ρ,S,δ,ds,δ',E,r,ht,q⟩=>by
 cases ds with
 | nil=>unfold az at r;cases ht;exact⟨r,q σ H (aS.refl H) E⟩
 | cons=>cases ht⟩
theorem cq{e:Expr}{es:List Expr}{t:FG}{u:CT}(h1:DD X cl e t)(h2:Df X cl es u)(hs:(assignEach (e ::es) X.env).map (·.2)=assign e X.env ::(assignEach es X.env).map (·.2):=by rfl):Df X cl (e ::es) (oF t u):=
 ⟨(ua h1.1 h2.1 hs).imp fun vs σ H Q ⟨ρ,S,δ,ds,δ',E,r,ht,q⟩=>by
   cases ds with
   | nil=>cases ht
   | cons d ds=>
     obtain⟨x,xs,rfl,r1,r2⟩:=r.bJ
     have ht:(t d δ).bind (fun δ'=>u ds δ')=some δ':=ht
     cases e1:t d δ with
     | none=>rw [e1] at ht;cases ht
     | some δ1=>
       rw[e1] at ht
       exact⟨x,xs,rfl,ρ,S,δ,d,δ1,E,r1,e1,fun σ1 H1 s1 E1=>⟨ρ,S,δ1,ds,δ',E1,r2.pre (Pre.same s1),ht,fun σ2 H2 s2 E2=>q σ2 H2 (s1.trans s2) E2⟩⟩⟩
noncomputable def uT(n:Nat)(t:CT):FG:=fun d δ=>match d with
 | .d (.tup ds)=>if ds.length=n then t (ds.map .d) δ else none
 | .tup vs=>if vs.length=n then t vs δ else none
 | _=>none
theorem iL{es:List Expr}{k:Nat}{t:CT}{n:Nat}{pos:Pos}(hc:X.calm=true)(h:Df X cl es t)(hn:(assignEach es X.env).length=n:=by rfl)(hst:(assignEach es X.env).findIdx? (·.1)=none:=by rfl):DD X cl (.Tuple es k pos) (uT n t):=
 ⟨(AS hc h.1 hn hst).imp fun v σ H Q ⟨ρ,S,δ,d,δ',E,r,ht,q⟩=>by
   have key:∃vs a xs,v= .ref a∧qZ X.K ρ.b H a xs∧az X.K ρ H vs xs∧vs.length=n∧t vs δ=some δ':=by
    unfold uT at ht
    split at ht
    ·rename_i ds
     split at ht
     ·rename_i hl
      unfold aZ Rep at r
      obtain⟨a,xs,e,l,r⟩:=r
      exact⟨ds.map .d,a,xs,e,l,az.of r,by rw[List.length_map];exact hl,ht⟩
     ·cases ht
    ·rename_i vs
     split at ht
     ·rename_i hl
      unfold aZ at r
      obtain⟨a,xs,e,l,r⟩:=r
      exact⟨vs,a,xs,e,l,r,hl,ht⟩
     ·cases ht
    ·cases ht
   obtain⟨vs,a,xs,rfl,l,r,hl,ht⟩:=key
   exact⟨a,xs,rfl,l.sq,by rw[←r.length];exact hl,ρ,S,δ,vs,δ',E,r,ht,q⟩⟩
noncomputable def Cg(f:FX)(t:FG):FZ:=fun δ S=>(f δ S).bind fun d S=>match t d δ with | some δ'=> .ok (.nx δ') S | none=> .no
theorem zJ{tg e:Expr}{f:FX}{t:FG}{pos:Pos}(he:PX X cl e f)(hg:DD X cl tg t)(hs:swapsWithSole [tg] e pos.line X.env=pure false:=by rfl)(hw:swappedStores [tg] e X.env=pure none:=by rfl)
 (h1:(assignEach [tg] X.env).map (·.2)=[assign tg X.env]:=by rfl):PZ X cl (.Assign [tg] e pos) (Cg f t):=⟨(Ap he.1 hg.1 hs hw h1).imp fun D σ H ⟨ρ,S,δ,o,S',E,hf,q⟩=>by
 obtain⟨d,S1,h1,h2⟩:=R3.aj hf
 split at h2
 ·rename_i δ1 e1
  cases h2
  exact⟨ρ,S,δ,d,_,E,h1,fun v ρ1 H1 p1 w1 r1=>⟨ρ1,_,δ,d,δ1,E.to p1 w1,r1,e1,fun σ' H2 s2 E2=>q σ' ρ1 H2 (p1.trans (Pre.same s2)) E2⟩⟩
 ·cases h2⟩
noncomputable def iS(t:FG)(body:FZ):List V3→FZ
 | [],δ,S=> .ok (.nx δ) S
 | d ::ds,δ,S=>match t d δ with
   | none=> .no
   | some δ1=>(body δ1 S).bind fun o S=>match o with | .nx δ2=>iS t body ds δ2 S | .rt r=> .ok (.rt r) S
noncomputable def i0(it:FA)(t:FG)(body:FZ):FZ:=fun δ S=>(it δ S).bind fun vs S=>iS t body vs δ S
theorem d6{tg iter:Expr}{body:List Stmt}{it:FA}{t:FG}{F:FZ}{pos:Pos}(hp:PassesOwn (model X.prog X.w) X.A X.env X.xe)(hc:X.calm=true)(hi:DS X cl tg iter it)(hg:DD X cl tg t)(hb:zl X cl body F)
 (hs:∀x,foldedSetIterable iter X.env x=pure x:=by intro _;rfl):PZ X cl (.For tg iter body [] pos) (i0 it t F):=⟨(vO hp hc hi.1 hg.1 hb.1 hs).imp fun D σ H ⟨ρ,S,δ,o,S',E,hf,q⟩=>by
 obtain⟨ds,S0,h1,h2⟩:=R3.aj hf
 refine⟨ρ,S,δ,ds,S0,E,h1,fun J ρ1 H1 p1 w1 ir=>?_⟩
 refine⟨fun i m σ' H'=>m=ds.length - i∧i≤ds.length∧∃ρ' S1 δ',Pre ρ1 H1 ρ' H'∧eM X.K cl ρ' H' S1 σ' δ'∧iS t F (ds.drop i) δ' S1= .ok o S',⟨ds.length,rfl,Nat.zero_le _,ρ1,S0,δ,Pre.refl ρ1 H1,E.to p1 w1,by simpa using h2⟩,?_⟩
 rintro i m σ' H' ⟨rfl,hi,ρ',S1,δ',pv,E',hl⟩
 obtain⟨go,stop⟩:=ir ρ' H' pv.pw E'.sw.bs
 by_cases hlt:i < ds.length
 ·have hd:ds[i]? =some ds[i]:=List.getElem?_eq_getElem hlt
  have hdrop:ds.drop i=ds[i] ::ds.drop (i+1):=List.drop_eq_getElem_cons hlt
  rw[hdrop] at hl
  unfold iS at hl
  split at hl
  ·cases hl
  ·rename_i δ1 h3
   obtain⟨o1,S2,h5,h6⟩:=R3.aj hl
   obtain⟨g1,g2⟩:=go i _ hd
   refine .inr ⟨g1,fun σ2 H2=>∃ρ2 S2 δ2,Pre ρ1 H1 ρ2 H2∧eM X.K cl ρ2 H2 S2 σ2 δ2∧iS t F (ds.drop (i+1)) δ2 S2= .ok o S',fun σ2 H2 n=>⟨ds.length - (i+1),by omega,rfl,hlt,n⟩,fun x H'' y=>?_⟩
   obtain⟨ss,rr⟩:=g2 x H'' y
   refine⟨ρ',S1,δ',ds[i],δ1,E'.same ss,rr,h3,fun σ2 H2 s2 E2=>⟨ρ',S1,δ1,o1,S2,E2,h5,?_⟩⟩
   have pv2:Pre ρ1 H1 ρ' H2:=pv.trans (Pre.same (ss.trans s2))
   cases o1 with
   | nx δ2=>exact fun σ3 ρ3 H3 p3 E3=>⟨ρ3,S2,δ2,pv2.trans p3,E3,h6⟩
   | rt d=>
     cases h6
     exact fun v ρ3 H3 p3 w r=>q v ρ3 H3 (p1.trans (pv2.trans p3)) w r
 ·have e:i=ds.length:=by omega
  subst e
  rw[List.drop_length] at hl
  cases hl
  exact .inl ⟨stop,q σ' ρ' H' (p1.trans pv) E'⟩⟩
end
end L3
end
section
set_option maxRecDepth 100000
set_option maxHeartbeats 4000000
namespace L3
open PySem PySem.Spec PyProof.Rows L2
mutual
noncomputable def kg(n:Nat):V3→Bool
 | .d _=>true
 | .loc k=>decide (k < n)
 | .lst vs=>ij n vs
 | .tup vs=>ij n vs
noncomputable def ij(n:Nat):List V3→Bool
 | []=>true
 | v ::vs=>kg n v && ij n vs
end
noncomputable def lq(n:Nat):SO→Bool
 | .ins _ fs=>ij n (fs.map (·.2))
 | _=>true
theorem BR{ρ:P3}{n:Nat}{b:Addr}(h:b∈(ρ.cut n).b):b∈ρ.b:=by
 rcases P3.dA.mp h with z | z
 ·exact P3.dA.mpr (.inl ⟨List.mem_of_mem_take z.1,z.2⟩)
 ·exact P3.dA.mpr (.inr z)
theorem g7{ρ:P3}{H:Hp}(n:Nat):dq ρ.b H (ρ.cut n).b H:=fun b o e nb=>⟨e,fun hb=>nb (BR hb)⟩
mutual
theorem aZ.cut{K:PySem.W.Frag}{ρ:P3}{H:Hp}{n:Nat}:∀{v:V3} {x:V},kg n v=true→aZ K ρ H v x→aZ K (ρ.cut n) H v x
 | .d y,x,_,h=>by unfold aZ at h ⊢;exact h.bo (g7 n)
 | .loc k,x,o,h=>by
   unfold aZ at h ⊢
   unfold kg at o
   obtain⟨a,h1,h2⟩:=h
   exact⟨a,by show(ρ.r.take n)[k]? =_;rw [List.getElem?_take_of_lt (of_decide_eq_true o)];exact h1,h2⟩
 | .lst vs,x,o,h=>by
   unfold aZ at h ⊢
   unfold kg at o
   obtain⟨a,xs,e,l,r⟩:=h
   exact⟨a,xs,e,l.bo (g7 n),az.cut o r⟩
 | .tup vs,x,o,h=>by
   unfold aZ at h ⊢
   unfold kg at o
   obtain⟨a,xs,e,l,r⟩:=h
   exact⟨a,xs,e,qZ.bo (g7 n) l,az.cut o r⟩
theorem az.cut{K:PySem.W.Frag}{ρ:P3}{H:Hp}{n:Nat}:∀{vs:List V3} {xs:List V},ij n vs=true→az K ρ H vs xs→az K (ρ.cut n) H vs xs
 | [],_,_,h=>by unfold az at h ⊢;exact h
 | v ::vs,xs,o,h=>by
   unfold ij at o
   obtain⟨o1,o2⟩:=Bool.and_eq_true_iff.mp o
   obtain⟨x,r,rfl,h1,h2⟩:=h.bJ
   exact az.cons (aZ.cut o1 h1) (az.cut o2 h2)
end
theorem SW.cut{K:PySem.W.Frag}{cl:Nat→Addr}{ρ:P3}{H:Hp}{S:aH}(w:SW K cl ρ H S){n:Nat}(ok:(S.take n).all (lq n)=true):SW K cl (ρ.cut n) H (S.take n):=
 ⟨by show(ρ.r.take n).length=_;rw [List.length_take,List.length_take,w.len],fun i j a hi hj=>by
   have hi:(ρ.r.take n)[i]? =some a:=hi
   have hj:(ρ.r.take n)[j]? =some a:=hj
   have gi:ρ.r[i]? =some a:=by
    rw[List.getElem?_take] at hi;split at hi
    ·exact hi
    ·cases hi
   have gj:ρ.r[j]? =some a:=by
    rw[List.getElem?_take] at hj;split at hj
    ·exact hj
    ·cases hj
   exact w.nd i j a gi gj,fun k a o hk ho=>by
   have hk:(ρ.r.take n)[k]? =some a:=hk
   have gk:ρ.r[k]? =some a:=by
    rw[List.getElem?_take] at hk;split at hk
    ·exact hk
    ·cases hk
   have go:S[k]? =some o:=by
    rw[List.getElem?_take] at ho;split at ho
    ·exact ho
    ·cases ho
   have r:=w.ob k a o gk go
   have oo:lq n o=true:=List.all_eq_true.mp ok o (List.mem_of_getElem? ho)
   cases o with
   | lst ds=>obtain⟨xs,e,q⟩:=r;exact⟨xs,e,q.bo (g7 n)⟩
   | dct kvs=>obtain⟨ys,e,e2,q⟩:=r;exact⟨ys,e,e2,q.bo (g7 n)⟩
   | ins c fs=>obtain⟨dx,ys,e,e2,q⟩:=r;exact⟨dx,ys,e,e2,q.cut oo⟩
   | iE=>exact r,fun b hb=>let⟨h1,h2⟩:=w.zb b hb;⟨h1,fun h=>h2 (List.mem_of_mem_take h)⟩,(fun k a hk ho=>by
   have hk:(ρ.r.take n)[k]? =some a:=hk
   rw[List.getElem?_take] at hk
   split at hk
   ·rename_i hlt
    rw[List.getElem?_take_of_lt hlt] at ho
    exact w.fz k a hk ho
   ·cases hk),w.ff,(fun k a hk ho=>by
   have hk:(ρ.r.take n)[k]? =some a:=hk
   rw[List.getElem?_take] at hk
   split at hk
   ·rename_i hlt
    rw[List.getElem?_take_of_lt hlt] at ho
    exact w.fi k a hk ho
   ·cases hk)⟩
theorem SW.Em{K:PySem.W.Frag}{cl:Nat→Addr}{ρ ρ':P3}{H H':Hp}{n:Nat}(hn:ρ.r.length≤n)(p:Pre ρ H ρ' H'):Pre ρ H (ρ'.cut n) H':=
 ⟨p.bo.trans (g7 n),p.zz,p.zs,fun k a h=>by show(ρ'.r.take n)[k]? =_;rw [List.getElem?_take_of_lt (Nat.lt_of_lt_of_le (List.getElem?_eq_some_iff.mp h).1 hn)];exact p.ext k a h⟩
section
variable {X:Cx} {cl:Nat→Addr}
noncomputable def bW(S:aH)(k:Nat):Option (List D):=match S[k]? with | some (.lst ds)=>some ds | _=>none
theorem cJ{S:aH}{k:Nat}{ds:List D}(h:bW S k=some ds):S[k]? =some (.lst ds):=by
 unfold bW at h
 split at h
 ·rename_i e;cases h;exact e
 ·cases h
noncomputable def eI(δ:DE)(i:Nat):Option Nat:=match δ[i]? with | some (some (.loc k))=>some k | _=>none
theorem ip{δ:DE}{i k:Nat}(h:eI δ i=some k):δ[i]? =some (some (.loc k)):=by
 unfold eI at h
 split at h
 ·rename_i e;cases h;exact e
 ·cases h
noncomputable def lT(i:Nat)(f:FX):FZ:=fun δ S=>match eI δ i with
 | none=> .no
 | some k=>match bW S k with
   | none=> .no
   | some _=>(f δ S).bind fun v S1=>match v with
     | .d d=>(match bW S1 k with | some ds=>R3.bE (decide (ds.length < sizeLine)) (.ok (.nx δ) (S1.set k (.lst (ds++[d])))) | none=> .no)
     | _=> .no
theorem iV{i:Nat}{x:Str}{e:Expr}{f:FX}{npos apos cpos pos:Pos}(hN:X.N[i]? =some x)(hv:BM X.env.scope x)(he:PX X cl e f)
 (hd:(x==("__debug__":Str))=false:=by decide) (hcd:(x==("__classdict__":Str))=false:=by decide)
 (hs:starEach [e] X.env=(false,eval e X.env) ::starEach [] X.env:=by rfl) (hline:(apos.endLine==cpos.line)=true:=by rfl)
 (hfew:((backTo cpos (starEach [e] X.env)).all (fun x=>!x.1) && (backToKw cpos (keywordEach [] X.env)).all (fun x=>x.1.isSome)
   && decide (([e]:List Expr).length+([]:List Keyword).length+(if([]:List Keyword).isEmpty then 0 else 1) < 30))=true:=by rfl)
 (hsw:swapsWith (.Call (.Attribute (.Name x npos) "append" apos) [e] [] cpos) none pos.line X.env=pure false:=by rfl)
 (hbase:attributeBase (.Name x npos) "append" X.env (eval (.Name x npos) X.env)=eval (.Name x npos) X.env:=by rfl) :
 PZ X cl (.Expr (.Call (.Attribute (.Name x npos) "append" apos) [e] [] cpos) pos) (lT i f):=by
 refine⟨(sg (xE (X:=X) PySem.F.plainAttrs_list PySem.F.slot_list_append PySem.F.type_list_append mX (ng hN hv hd hcd) (eT he.1 gH hs) hbase hfew hline hs) hsw).imp fun D σ H ⟨ρ,S,δ,o,S',E,hf,q⟩=>?_⟩
 unfold lT at hf
 split at hf
 ·cases hf
 ·rename_i k hk
  split at hf
  ·cases hf
  ·rename_i ds0 h0
   obtain⟨v,S1,h1,h2⟩:=R3.aj hf
   split at h2
   ·rename_i d
    split at h2
    ·rename_i ds h3
     obtain⟨hl,h4⟩:=R3.bf h2
     cases h4
     obtain⟨u,u1,u2⟩:=E.val i _ (ip hk)
     unfold aZ at u2
     obtain⟨a,a1,rfl⟩:=u2
     obtain⟨xs0,x0,_⟩:=E.sw.ob k a _ a1 (cJ h0)
     refine⟨.ref a,u1, .inl ⟨rfl,xs0,kZ.of x0⟩,⟨ρ,S,δ, .d d,S1,E,h1,fun y ρ1 H1 p1 w1 r1=>?_⟩⟩
     have b1:=p1.ext k a a1
     obtain⟨xs,x1,x2⟩:=w1.ob k a _ b1 (cJ h3)
     refine⟨a,xs,y,rfl,rfl,x1,by rw[←x2.length];exact of_decide_eq_true hl,?_⟩
     unfold aZ at r1
     obtain⟨w2,p2⟩:=w1.put (o:= .lst (ds++[d])) (u:= .lst (xs++[y])) b1 (w1.fz k a b1 (by rw[cJ h3];intro h;cases h)) ⟨xs++[y],rfl,x2.append (aC.cons r1 aC.nil)⟩
     exact q σ ρ1 _ (p1.trans p2) (E.to (p1.trans p2) w2)
    ·cases h2
   ·cases h2
noncomputable def Dr(fo fi fe:FX):FZ:=fun δ S=>(fe δ S).bind fun v S1=>(fo δ S1).bind fun o S2=>(fi δ S2).bind fun j S3=>match v,o,j with
 | .d d, .loc k, .d (.int n)=>(match bW S3 k with
   | some ds=>(match pF ds.length n with | some m=> .ok (.nx δ) (S3.set k (.lst (ds.set m d))) | none=> .no)
   | none=> .no)
 | _,_,_=> .no
noncomputable def AF(K:PySem.W.Frag)(cl:Nat→Addr)(n:Nat)(g:List V3→aH→R3 V3):Sp:=fun vs H Q _=>vs.length=n∧∃ρ S xs v S',SW K cl ρ H S∧az K ρ H xs vs∧g xs S= .ok v S'∧∀u ρ' H',Pre ρ H ρ' H'→SW K cl ρ' H' S'→aZ K ρ' H' v u→Q u H'
noncomputable def bQ(g:List V3→aH→R3 V3)(fs:FA):FX:=fun δ S=>(fs δ S).bind g
noncomputable def aF(P:Program)(w:World)(K:PySem.W.Frag)(mg:Str→Option Value)(base:Heap)(cl:Nat→Addr)(k:Nat)(x:Str)(n:Nat)(g:List V3→aH→R3 V3):Prop:=
 ∃(f:Addr) (fd:FuncData) (ps:List Str),gM P w K mg base qp k f fd ps (AF K cl n g)∧mg x=some (.ref f)∧PySem.W.keepIn K (.ref f)=true∧Binds K fd ps []
theorem bg{g:List V3→aH→R3 V3}{k j n:Nat}{x:Str}{p pos:Pos}{e:Expr}{es:List Expr}{fs:FA}(C:aF X.prog X.w X.K X.mg X.base cl k x n g)(hr:dZ j X.A)(hkj:k≤j)(hg:Gl X x)(ha:zO X cl (e ::es) fs)
 (hn:∀δ S ds S',fs δ S= .ok ds S'→ds.length=n) (hdb:(x==("__debug__":Str))=false:=by decide) (he:starEach (e ::es) X.env=(false,eval e X.env) ::starEach es X.env:=by rfl) (hpl:(backTo pos (starEach es X.env)).any (·.1)=false:=by rfl) :
 PX X cl (.Call (.Name x p) (e ::es) [] pos) (bQ g fs):=by
 obtain⟨f,fd,ps,F,hm,hk,hb⟩:=C
 refine⟨(sI F (hr.mono hkj) hg hm hk hb .nil uk ha.1 hdb he hpl).imp fun σ H Q ⟨ρ,S,δ,v,S',E,hf,q⟩=>?_⟩
 obtain⟨vs,S1,h1,h2⟩:=R3.aj hf
 refine⟨ρ,S,δ,vs,S1,E,h1,fun us ρ1 H1 p1 w1 r1=>?_⟩
 show AF X.K cl n g (us++[]) H1 Q E0
 rw[List.append_nil]
 exact⟨by rw[←r1.length];exact hn δ S vs S1 h1,ρ1,S1,vs,v,S',w1,r1,h2,fun z ρ2 H2 p2 w2 r2=>q z ρ2 H2 (p1.trans p2) w2 r2⟩
end
noncomputable def bM(N:List Str)(vs:List V3):DE:=vs.map some++List.replicate (N.length - vs.length) none
theorem zo{K:PySem.W.Frag}{cl:Nat→Addr}{ρ:P3}{H:Hp}{S:aH}{N:List Str}{ds:List V3}{vs:List V}(w:SW K cl ρ H S)(r:az K ρ H ds vs):eM K cl ρ H S (L2.start N vs) (bM N ds) where
 len:=by unfold L2.start bM;simp [r.length]
 sw:=w
 val:=fun i d e=>by
  unfold bM at e
  unfold L2.start
  by_cases hi:i < ds.length
  ·rw[List.getElem?_append_left (by simpa using hi),List.getElem?_map] at e
   cases q:ds[i]? with
   | none=>rw [q] at e;cases e
   | some d'=>
     rw[q] at e
     cases e
     obtain⟨x,h1,h2⟩:=r.get q
     exact⟨x,by rw[List.getElem?_append_left (by rw[List.length_map,←r.length];exact hi),List.getElem?_map,h1];rfl,h2⟩
  ·rw[List.getElem?_append_right (by simpa using hi),List.getElem?_replicate] at e
   split at e <;> cases e
noncomputable def lL(N:List Str)(F:FZ):List V3→aH→R3 V3:=fun vs S=>(F (bM N vs) S).bind fun o S'=>match o with | .rt v=> .ok v S' | .nx _=> .ok (.d .cK) S'
noncomputable def mP(N:List Str)(F:FZ):List V3→aH→R3 V3:=fun vs S=>(lL N F vs S).bind fun v S'=>match res S' v with
 | some d=>R3.bE ((S'.take S.length).all (lq S.length) && fw S.length v) (.ok (.d d) (S'.take S.length))
 | none=> .no
theorem Cv{P:Program}{w:World}{K:PySem.W.Frag}{mg:Str→Option Value}{base:Heap}{cl:Nat→Addr}{x qual:Str}{st:Stmt}{f:Addr}{fd:FuncData}{N ps:List Str}{k:Nat}{F:FZ}(Fn:wR K x qual st f fd)(S:ba N ps (ag st))
 (hbody:∀(cdv:Value) (A:Around) (outer:List Env) (s:Shared) (H:Hp) (E:XK),dZ k (A.deeper (envOfC qual (ag st) s.heap.objs.size f cdv))→
   zl (qc qp P w K mg base N qual (ag st) f cdv A outer s H E).B9 cl (ao st) F):gM P w K mg base qp (k+1) f fd ps (AF K cl ps.length (lL N F)):=by
 refine Fn.ok S (fun vs H Q E h=>h.1) (fun cdv A outer s H vs Q E hr h=>⟨_,(hbody cdv A outer s H E hr).1,?_⟩)
 obtain⟨_,ρ,S,ds,v,S',w,r,hg,q⟩:=h
 obtain⟨o,S1,h1,h2⟩:=R3.aj hg
 refine⟨ρ,S,bM N ds,o,S1,zo w r,h1,?_⟩
 cases o with
 | nx δ'=>
   cases h2
   exact fun σ' ρ' H' p' E'=>q _ ρ' H' p' E'.sw (by unfold aZ Rep;rfl)
 | rt d'=>
   cases h2
   exact fun u ρ' H' p' w' r'=>q u ρ' H' p' w' r'
theorem vY{K:PySem.W.Frag}{cl:Nat→Addr}{N:List Str}{F:FZ}{n:Nat}{vs:List V}{H:Hp}{Q:VK}{E:XK}(h:AF K cl n (mP N F) vs H Q E):AF K cl n (lL N F) vs H Q E:=by
 obtain⟨hl,ρ,S,xs,v,S',w,r,hg,q⟩:=h
 obtain⟨v1,S1,h1,h2⟩:=R3.aj hg
 refine⟨hl,ρ,S,xs,v1,S1,w,r,h1,fun u ρ1 H1 p1 w1 r1=>?_⟩
 have pc:Pre ρ H (ρ1.cut S.length) H1:=SW.Em (K:=K) (cl:=cl) (by rw[w.len];exact Nat.le_refl _) p1
 split at h2
 ·rename_i d e
  obtain⟨ok,h3⟩:=R3.bf h2
  obtain⟨ok,hk⟩:=Bool.and_eq_true_iff.mp ok
  cases h3
  refine q u _ H1 pc (w1.cut ok) ?_
  unfold aZ
  refine r1.resB w1 (g7 _) (fun k a hk a1 ha=>?_) hk e
  rcases P3.dA.mp ha with⟨z,_⟩ | z
  ·obtain⟨j,hj⟩:=List.getElem?_of_mem z
   have hj:(ρ1.r.take S.length)[j]? =some a:=hj
   rw[List.getElem?_take] at hj
   split at hj
   ·rename_i hjl
    have:=w1.nd j k a hj a1
    omega
   ·cases hj
  ·exact(w1.zb a z).2 (List.mem_of_getElem? a1)
 ·cases h2
end L3
end
section
set_option maxRecDepth 100000
set_option maxHeartbeats 4000000
namespace L3
open PySem PySem.Spec PyProof.Rows L2
theorem aC.setAt{K:PySem.W.Frag}{ρ:P3}{H:Hp}:∀{ds:List D} {xs:List V} {m:Nat} {d:D} {v:V},aC K ρ.b H ds xs→Rep K ρ.b H d v→aC K ρ.b H (ds.set m d) (xs.set m v)
 | [],_,_,_,_,h,_=>by unfold aC at h;subst h;exact aC.nil
 | e ::ds,xs,0,d,v,h,r=>by
   obtain⟨x,r',rfl,h1,h2⟩:=h.bJ
   exact aC.cons r h2
 | e ::ds,xs,m+1,d,v,h,r=>by
   obtain⟨x,r',rfl,h1,h2⟩:=h.bJ
   exact aC.cons h1 (aC.setAt h2 r)
section
variable {X:Cx} {cl:Nat→Addr}
theorem AX{o i e:Expr}{fo fi fe:FX}{spos pos:Pos}(he:PX X cl e fe)
 (hg:PG X (.Subscript o i spos) (Hj (tX X.K cl fo) (tX X.K cl fi) D5))
 (hs:swapsWithSole [.Subscript o i spos] e pos.line X.env=pure false:=by rfl) (hw:swappedStores [.Subscript o i spos] e X.env=pure none:=by rfl)
 (h1:(assignEach [.Subscript o i spos] X.env).map (·.2)=[assign (.Subscript o i spos) X.env]:=by rfl):PZ X cl (.Assign [.Subscript o i spos] e pos) (Dr fo fi fe):=⟨(Ap he.1 hg hs hw h1).imp fun D σ H ⟨ρ,S,δ,ou,S',E,hf,q⟩=>by
 obtain⟨v,S1,h1,h2⟩:=R3.aj hf
 obtain⟨vo,S2,h3,h4⟩:=R3.aj h2
 obtain⟨vi,S3,h5,h6⟩:=R3.aj h4
 split at h6
 ·rename_i d k n
  split at h6
  ·rename_i ds hds
   split at h6
   ·rename_i m hm
    cases h6
    refine⟨ρ,S,δ, .d d,S1,E,h1,fun u ρ1 H1 p1 w1 r1=>⟨ρ1,S1,δ, .loc k,S2,E.to p1 w1,h3,fun u2 ρ2 H2 p2 w2 r2=>⟨ρ2,S2,δ, .d (.int n),S3,(E.to p1 w1).to p2 w2,h5,fun u3 ρ3 H3 p3 w3 r3=>?_⟩⟩⟩
    unfold aZ at r2
    obtain⟨a,a1,rfl⟩:=r2
    have a3:=p3.ext k a a1
    obtain⟨xs,x1,x2⟩:=w3.ob k a _ a3 (cJ hds)
    unfold aZ Rep at r3
    have r1':=r1.pre (p2.trans p3)
    unfold aZ at r1'
    obtain⟨w4,p4⟩:=w3.put (o:= .lst (ds.set m d)) (u:= .lst (xs.set m u)) a3 (w3.fz k a a3 (by rw[cJ hds];intro h;cases h)) ⟨xs.set m u,rfl,aC.setAt x2 r1'⟩
    exact⟨a,xs,n,m,rfl,r3,x1,by rw[←x2.length];exact hm,q σ ρ3 _ (((p1.trans p2).trans p3).trans p4) (E.to (((p1.trans p2).trans p3).trans p4) w4)⟩
   ·cases h6
  ·cases h6
 ·cases h6⟩
noncomputable def kX(δ:DE)(i:Nat):Option V3:=match δ[i]? with | some (some v)=>some v | _=>none
noncomputable def fQ(own:List Str)(kp:List Nat)(δ:DE):DE:=List.replicate own.length none++kp.map (kX δ)
theorem B6{K:PySem.W.Frag}{ρ ρ':P3}{H H':Hp}{S S':aH}{σ:L2.St}{δ:DE}{own:List Str}{kp:List Nat}(E:eM K cl ρ H S σ δ)(p:PW ρ H ρ' H')(w:SW K cl ρ' H' S'):eM K cl ρ' H' S' (dk own kp σ) (fQ own kp δ) where
 len:=by unfold dk fQ;simp
 sw:=w
 val:=fun i d e=>by
  unfold fQ at e
  unfold dk
  by_cases hi:i < own.length
  ·rw[List.getElem?_append_left (by simpa using hi),List.getElem?_replicate] at e
   split at e <;> cases e
  ·rw[List.getElem?_append_right (by simpa using hi),List.length_replicate,List.getElem?_map] at e ⊢
   cases q:kp[i - own.length]? with
   | none=>rw [q] at e;cases e
   | some j=>
     rw[q] at e
     have e:kX δ j=some d:=Option.some.inj e
     unfold kX at e
     split at e
     ·rename_i d' ed
      cases e
      obtain⟨v,h1,h2⟩:=E.val j d ed
      exact⟨v,by simp [h1],h2.pw p⟩
     ·cases e
noncomputable def kD(t:FG)(c:FB)(f:FX)(δ:DE):List V3→aH→R3 (List V3)
 | [],S=> .ok [] S
 | v ::vs,S=>match t v δ with
   | none=> .no
   | some δ1=>(c δ1 S).bind fun b S1=>if b then(f δ1 S1).bind fun y S2=>(kD t c f δ vs S2).bind fun ys S3=> .ok (y ::ys) S3 else kD t c f δ vs S1
noncomputable def jJ(it:FA)(t:FG)(c:FB)(f:FX)(own:List Str)(kp:List Nat):FX:=fun δ S=>(it δ S).bind fun vs S1=>R3.bE (decide (vs.length≤sizeLine)) ((kD t c f (fQ own kp δ) vs S1).bind fun ys S2=> .ok (iy ys) S2)
theorem az.append{K:PySem.W.Frag}{ρ:P3}{H:Hp}:∀{ds es:List V3} {xs ys:List V},az K ρ H ds xs→az K ρ H es ys→az K ρ H (ds++es) (xs++ys)
 | [],_,_,_,h,t=>by unfold az at h;subst h;exact t
 | d ::ds,es,xs,ys,h,t=>by
   obtain⟨x,r,rfl,h1,h2⟩:=h.bJ
   exact az.cons h1 (az.append h2 t)
theorem xi{K:PySem.W.Frag}{it:FA}{t:FG}{c:FB}{f:FX}{own:List Str}{kp:List Nat}{σ:L2.St}{H:Hp}{Q:VK}(h:tX K cl (jJ it t c f own kp) σ H Q) :
 yb (JU K cl it) (gX K cl t) (Ge K cl c) (tX K cl f) own kp σ H Q:=by
 obtain⟨ρ,S,δ,v,SF,E,hf,q⟩:=h
 obtain⟨es,S1,h1,h2⟩:=R3.aj hf
 obtain⟨hl,h3⟩:=R3.bf h2
 have hl:=of_decide_eq_true hl
 obtain⟨vs,S2,h4,h5⟩:=R3.aj h3
 cases h5
 refine⟨ρ,S,δ,es,S1,E,h1,fun J ρ1 H1 p1 w1 ir Dd hD=>?_⟩
 have nDz:Dd ∉ ρ1.b:=fun hb=>by obtain⟨o,ho⟩:=w1.bs Dd hb;rw [hD] at ho;cases ho
 have nDr:Dd ∉ ρ1.r:=fun hb=>by obtain⟨o,ho⟩:=w1.rs Dd hb;rw [hD] at ho;cases ho
 have toZ:∀{r' f':List Addr} {H':Hp},Pre ρ1 H1 ⟨r',ρ1.z,f'⟩ H'→PW ρ1 H1 ⟨r',Dd ::ρ1.z,f'⟩ H':=fun {r' f' H'} p=>⟨fun b o e nb=>⟨(p.bo b o e nb).1,fun hb=>by
  rcases P3.dA.mp hb with z | z
  ·exact(p.bo b o e nb).2 (P3.dA.mpr (.inl z))
  ·rcases List.mem_cons.mp z with y | y
   ·exact cx e hD y
   ·exact(p.bo b o e nb).2 (P3.dA.mpr (.inr y))⟩,p.ext⟩
 have w0:SW K cl ⟨ρ1.r,Dd ::ρ1.z,ρ1.f⟩ (upd H1 Dd (.lst [])) S1:=by
  have s0:aS H1 (upd H1 Dd (.lst [])):=aP hD
  have ws:=w1.same s0
  refine⟨ws.len,ws.nd,fun k a o hk ho=>?_,fun b hb=>?_,ws.fz,ws.ff,ws.fi⟩
  ·have r:=w1.ob k a o hk ho
   obtain⟨u,hu⟩:=r.some
   rw[s0 a u hu,←hu]
   exact r.pw (toZ (Pre.same s0))
  ·rcases List.mem_cons.mp hb with y | y
   ·subst y;exact⟨⟨_,aQ⟩,nDr⟩
   ·exact ws.zb b y
 refine⟨fun i m ys H'=>m=es.length - i∧i≤es.length∧ys.length≤i∧H' Dd=some (.lst ys)∧∃r' f' S' done rest,Pre ρ1 H1 ⟨r',ρ1.z,f'⟩ H'∧SW K cl ⟨r',Dd ::ρ1.z,f'⟩ H' S'∧vs=done++rest∧az K ⟨r',Dd ::ρ1.z,f'⟩ H' done ys∧kD t c f (fQ own kp δ) (es.drop i) S'= .ok rest SF,
  ⟨es.length,rfl,Nat.zero_le _,Nat.le_refl _,aQ,ρ1.r,ρ1.f,S1,[],vs,Pre.same (aP hD),w0,rfl,az.nil,by simpa using h4⟩,?_⟩
 rintro i m ys H' ⟨rfl,hi,hy,hDl,r',f',S',done,rest,pv,w',rfl,rd,hc⟩
 obtain⟨go,stop⟩:=ir ⟨r',Dd ::ρ1.z,f'⟩ H' (toZ pv) w'.bs
 have unZ:∀{ρ4:P3} {H4:Hp},Pre ⟨r',Dd ::ρ1.z,f'⟩ H' ρ4 H4→Pre ρ1 H1 ⟨ρ4.r,ρ1.z,ρ4.f⟩ H4:=fun {ρ4 H4} p4=>⟨fun b o e nb=>by
  obtain⟨e1,n1⟩:=(toZ pv).bo b o e nb
  obtain⟨e2',n2⟩:=p4.bo b o e1 n1
  refine⟨e2',fun hb=>n2 ?_⟩
  rcases P3.dA.mp hb with z | z
  ·exact P3.dA.mpr (.inl z)
  ·exact P3.dA.mpr (.inr (by rw[p4.zz];exact List.mem_cons_of_mem _ z)),rfl,fun b o hb h=>p4.zs b o (List.mem_cons_of_mem _ hb) (pv.zs b o hb h),fun k a h=>p4.ext k a (pv.ext k a h)⟩
 by_cases hlt:i < es.length
 ·have hd:es[i]? =some es[i]:=List.getElem?_eq_getElem hlt
  have hdrop:es.drop i=es[i] ::es.drop (i+1):=List.drop_eq_getElem_cons hlt
  rw[hdrop] at hc
  unfold kD at hc
  split at hc
  ·cases hc
  ·rename_i δ1 h6
   obtain⟨b,T1,h7,h8⟩:=R3.aj hc
   obtain⟨g1,g2⟩:=go i _ hd
   refine .inr ⟨g1,fun x H2 y=>?_⟩
   obtain⟨sy,ry⟩:=g2 x H2 y
   have Ec:eM K cl ⟨r',Dd ::ρ1.z,f'⟩ H2 S' (dk own kp σ) (fQ own kp δ):=B6 E (p1.pw.trans ((toZ pv).trans (Pre.same sy).pw)) (w'.same sy)
   refine⟨⟨r',Dd ::ρ1.z,f'⟩,S',fQ own kp δ,es[i],δ1,Ec,ry,h6,fun σ3 H3 s3 E3=>⟨⟨r',Dd ::ρ1.z,f'⟩,S',δ1,b,T1,E3,h7,fun ρ4 H4 p4 w4=>?_⟩⟩
   have pv4:Pre ⟨r',Dd ::ρ1.z,f'⟩ H' ρ4 H4:=(Pre.same (sy.trans s3)).trans p4
   cases b with
   | true=>
     rw[if_pos rfl] at h8
     refine Al ?_
     obtain⟨yv,T2,h9,h10⟩:=R3.aj h8
     obtain⟨rs,T3,h11,h12⟩:=R3.aj h10
     cases h12
     refine⟨ρ4,T1,δ1,yv,T2,E3.to p4 w4,h9,fun v5 ρ5 H5 p5 w5 r5=>?_⟩
     have pv5:Pre ⟨r',Dd ::ρ1.z,f'⟩ H' ρ5 H5:=pv4.trans p5
     have hD5:H5 Dd=some (.lst ys):=pv5.zs Dd _ List.mem_cons_self hDl
     have u5:=unZ pv5
     obtain⟨r5',z5,f5⟩:=ρ5
     have ez:z5=Dd ::ρ1.z:=pv5.zz
     subst ez
     have nr:Dd ∉ r5':=(w5.zb Dd List.mem_cons_self).2
     have pw:PW ⟨r5',Dd ::ρ1.z,f5⟩ H5 ⟨r5',Dd ::ρ1.z,f5⟩ (upd H5 Dd (.lst (ys++[v5]))):=⟨fun b o e nb=>⟨by rw[bc (fun(z:b=Dd)=>nb (by rw[z];exact P3.dA.mpr (.inr List.mem_cons_self)))];exact e,nb⟩,fun _ _ h=>h⟩
     refine⟨hD5,by omega,es.length - (i+1),by omega,rfl,hlt,by rw[List.length_append,List.length_singleton];omega,aQ,r5',f5,T2,done++[yv],rs,?_,?_,by simp,az.append ((rd.pre pv5).pw pw) (az.cons (r5.pw pw) az.nil),h11⟩
     ·refine⟨fun b o e nb=>⟨by rw[bc (cx e hD)];exact(u5.bo b o e nb).1,(u5.bo b o e nb).2⟩,rfl,fun b o hb h=>?_,u5.ext⟩
      rw[bc (cx h hD)]
      exact u5.zs b o hb h
     ·refine⟨w5.len,w5.nd,fun k a o hk ho=>?_,fun b hb=>?_,w5.fz,fun b hb=>?_,w5.fi⟩
      ·have ne:a≠Dd:=fun z=>nr (by rw[←z];exact List.mem_of_getElem? hk)
       rw[bc ne]
       exact(w5.ob k a o hk ho).pw pw
      ·obtain⟨⟨o,ho⟩,n⟩:=w5.zb b hb
       refine⟨?_,n⟩
       by_cases z:b=Dd
       ·subst z;exact⟨_,aQ⟩
       ·rw[bc z];exact⟨o,ho⟩
      ·obtain⟨o,ho⟩:=w5.ff b hb
       by_cases z:b=Dd
       ·subst z;exact⟨_,aQ⟩
       ·rw[bc z];exact⟨o,ho⟩
   | false=>
     rw[if_neg (by decide)] at h8
     refine z8 ?_
     have hD4:H4 Dd=some (.lst ys):=pv4.zs Dd _ List.mem_cons_self hDl
     have u4:=unZ pv4
     obtain⟨r4',z4,f4⟩:=ρ4
     have ez:z4=Dd ::ρ1.z:=pv4.zz
     subst ez
     exact⟨es.length - (i+1),by omega,rfl,hlt,by omega,hD4,r4',f4,T1,done,rest,u4,w4,rfl,rd.pre pv4,h8⟩
 ·have e:i=es.length:=by omega
  subst e
  rw[List.drop_length] at hc
  cases hc
  rw[List.append_nil] at q
  refine .inl ⟨stop,?_⟩
  have back:PW ⟨r',Dd ::ρ1.z,f'⟩ H' ⟨r',ρ1.z,f'⟩ H':=⟨fun b o e nb=>⟨e,fun hb=>nb (by
   rcases P3.dA.mp hb with z | z
   ·exact P3.dA.mpr (.inl z)
   ·exact P3.dA.mpr (.inr (List.mem_cons_of_mem _ z)))⟩,fun _ _ h=>h⟩
  have wB:SW K cl ⟨r',ρ1.z,f'⟩ H' _:=⟨w'.len,w'.nd,fun k a o hk ho=>(w'.ob k a o hk ho).pw back,fun b hb=>w'.zb b (List.mem_cons_of_mem _ hb),w'.fz,w'.ff,w'.fi⟩
  refine q _ ⟨r',ρ1.z,f'⟩ H' (p1.trans pv) wB (qM (.inl ⟨fun hb=>?_, .inl hDl⟩) (rd.pw back))
  rcases P3.dA.mp hb with z | z
  ·exact(w'.zb Dd List.mem_cons_self).2 z.1
  ·exact nDz (P3.dA.mpr (.inr z))
end
end L3
end
section
set_option maxRecDepth 100000
set_option maxHeartbeats 4000000
namespace L3
open PySem PySem.Spec PyProof.Rows L2
section
variable {X:Cx} {cl:Nat→Addr}
theorem so{scope:Scope}{own:List Str}{kp:List Nat}{kn:List Str}{tg iter elt:Expr}{ifs:List Expr}{it:FA}{t:FG}{c:FB}{f:FX}{pos:Pos}(hc:X.calm=true)(C:ck X scope own kp kn)(hi:DS X cl tg iter it)
 (hg:∀fp s H,DD (bC X scope (own++kn) fp s H) cl tg t) (hif:∀fp s H,m7 (bC X scope (own++kn) fp s H) ifs (Ge X.K cl c)) (he:∀fp s H,PX (bC X scope (own++kn) fp s H) cl elt f)
 (hs:∀x,foldedSetIterable iter X.env x=pure x:=by intro _;rfl):PX X cl (.ListComp elt [⟨tg,iter,ifs,0⟩] scope pos) (jJ it t c f own kp):=
 ⟨(xY hc C hi.1 (fun fp s H=>(hg fp s H).1) hif (fun fp s H=>(he fp s H).1) hs).imp fun σ H Q h=>xi h⟩
noncomputable def yI:FB:=fun _ S=> .ok true S
theorem kK:m7 X [] (Ge X.K cl yI):=fun pins s σ H Q I ⟨ρ,S,δ,b,S',E,hf,q⟩=>tJ pins s σ H Q I (by cases hf;exact q ρ H (Pre.refl ρ H) E.sw)
theorem t9{e:Expr}{c:FB}(h:yH X cl e c):m7 X [e] (Ge X.K cl c):=tq h.1
theorem EI{K:PySem.W.Frag}{i:Nat}{f:FX}{D:Ends}{σ:L2.St}{H:Hp}(h:sX K cl (cy i f) D σ H):yx (tX K cl f) (pJ i) D σ H:=by
 obtain⟨ρ,S,δ,o,S',E,hf,q⟩:=h
 obtain⟨v,S1,h1,h2⟩:=R3.aj hf
 obtain⟨hi,h3⟩:=R3.bf h2
 cases h3
 refine⟨ρ,S,δ,v,_,E,h1,fun u ρ1 H1 p1 w1 r1=>?_⟩
 exact q _ ρ1 H1 p1 ((E.to p1 w1).set (by rw[←E.len];exact of_decide_eq_true hi) r1)
theorem lF{i:Nat}{x:Str}{pos' spos:Pos}{scope:Scope}{own:List Str}{kp:List Nat}{kn:List Str}{tg iter elt:Expr}{ifs:List Expr}{it:FA}{t:FG}{c:FB}{f:FX}{pos:Pos}(hc:X.calm=true)
 (hN:X.N.Nodup) (hx:X.N[i]? =some x) (hxl:X.env.scope.names.lookup x=some .local) (C:ck X scope own kp kn) (hi:DS X cl tg iter it)
 (hg:∀fp s H,DD (bC X scope (own++kn) fp s H) cl tg t) (hif:∀fp s H,m7 (bC X scope (own++kn) fp s H) ifs (Ge X.K cl c)) (he:∀fp s H,PX (bC X scope (own++kn) fp s H) cl elt f)
 (hsw:swapsWith (.ListComp elt [⟨tg,iter,ifs,0⟩] scope pos) (some (.Name x pos')) spos.line X.env=pure true:=by rfl)
 (hs:∀x,foldedSetIterable iter X.env x=pure x:=by intro _;rfl):PZ X cl (.Assign [.Name x pos'] (.ListComp elt [⟨tg,iter,ifs,0⟩] scope pos) spos) (cy i (jJ it t c f own kp)):=
 ⟨(wg hc hN hx hxl C hi.1 (fun fp s H=>(hg fp s H).1) hif (fun fp s H=>(he fp s H).1) hsw hs).imp fun D σ H h=>xi (EI h)⟩
noncomputable def Le(g:FA):FX:=fun δ S=>(g δ S).bind fun vs S1=>match jF vs with
 | some ds=>R3.bE (decide (ds.length≤sizeLine)) (.ok (.loc S1.length) (S1++[.lst ds]))
 | none=> .no
end
end L3
end
section
set_option maxRecDepth 100000
set_option maxHeartbeats 4000000
namespace L3
open PySem PySem.Spec PyProof.Rows L2
section
variable {X:Cx} {cl:Nat→Addr}
noncomputable def jA(g:List D→R D)(fs:FA):FX:=fun δ S=>(fs δ S).bind fun vs S1=>match jF vs with
 | some ds=>(R3.of (g ds) S1).bind fun d S=> .ok (.d d) S
 | none=> .no
theorem tw{K:PySem.W.Frag}{g:List D→R D}{fs:FA}{σ:L2.St}{H:Hp}{Q:VK}(h:tX K cl (jA g fs) σ H Q) :
 Ju K cl fs σ H fun vs H1=>∃B ds d,(∀a∈B,∃o,H1 a=some o)∧aC K B H1 ds vs∧g ds= .ok d∧∀z H',aS H1 H'→Rep K B H' d z→Q z H':=by
 obtain⟨ρ,S,δ,v,S',E,hf,q⟩:=h
 obtain⟨vs,S1,h1,h2⟩:=R3.aj hf
 split at h2
 ·rename_i ds e
  obtain⟨d,S2,h3,h4⟩:=R3.aj h2
  obtain⟨h5,e5⟩:=R3.of_ok h3
  cases h4
  subst e5
  refine⟨ρ,S,δ,vs,_,E,h1,fun us ρ1 H1 p1 w1 r1=>?_⟩
  rw[gS e] at r1
  exact⟨ρ1.b,ds,d,w1.bs,r1.to,h5,fun z H' s r=>q z ρ1 H' (p1.trans (Pre.same s)) (w1.same s) (by unfold aZ;exact r)⟩
 ·cases h2
theorem Ad{g:List D→R D}{x:Str}{id:String}{p pos:Pos}{e:Expr}{es:List Expr}{fs:FA}(hc:ft X (.builtin id) g)(hg:Gl X x)(hm:X.mg x=none)(hv:bootBuiltins x=some (.builtin id))(ha:zO X cl (e ::es) fs)(hn:x≠"__name__":=by decide)(hdb:(x==("__debug__":Str))=false:=by decide)
 (he:starEach (e ::es) X.env=(false,eval e X.env) ::starEach es X.env:=by rfl) (hpl:(backTo pos (starEach es X.env)).any (·.1)=false:=by rfl):PX X cl (.Call (.Name x p) (e ::es) [] pos) (jA g fs):=
 ⟨(uv hc.r hg hm hv ha.1 hn hdb he hpl).imp fun σ H Q h=>tw h⟩
theorem yW{g:List D→R D}{x:Str}{T:String}{p pos:Pos}{e:Expr}{es:List Expr}{fs:FA}(hc:ft X (.type T) g)(hg:Gl X x)(hm:X.mg x=none)(hv:bootBuiltins x=some (.type T))(ha:zO X cl (e ::es) fs)(hn:x≠"__name__":=by decide)(hdb:(x==("__debug__":Str))=false:=by decide)
 (he:starEach (e ::es) X.env=(false,eval e X.env) ::starEach es X.env:=by rfl) (hpl:(backTo pos (starEach es X.env)).any (·.1)=false:=by rfl):PX X cl (.Call (.Name x p) (e ::es) [] pos) (jA g fs):=
 ⟨(mQ hc.r hg hm hv ha.1 hn hdb he hpl).imp fun σ H Q h=>tw h⟩
noncomputable def Lo(c:FB)(f g:FX):FX:=fun δ S=>(c δ S).bind fun b S=>if b then f δ S else g δ S
theorem aG:∀(δ:DE) (S:aH) (ds:List V3) (S':aH),bU δ S= .ok ds S'→ds.length=0:=fun δ S ds S' h=>by cases h;rfl
theorem ae{f:FX}{g:FA}{n:Nat}(h:∀(δ:DE) (S:aH) (ds:List V3) (S':aH),g δ S= .ok ds S'→ds.length=n):∀(δ:DE) (S:aH) (ds:List V3) (S':aH),av f g δ S= .ok ds S'→ds.length=n+1:=fun δ S ds S' e=>by
 obtain⟨v,S1,h1,h2⟩:=R3.aj e
 obtain⟨vs,S2,h3,h4⟩:=R3.aj h2
 cases h4
 rw[List.length_cons,h δ S1 vs _ h3]
end
end L3
end
section
set_option maxRecDepth 100000
set_option maxHeartbeats 4000000
namespace L3
open PySem PySem.Spec PyProof.Rows L2
theorem rg{K:PySem.W.Frag}{ρ:P3}{H:Hp}{ds:List V3}{xs:List V}{i:Int}{d:V3}(r:az K ρ H ds xs)(h:nK ds i=some d):∃x,nK xs i=some x∧aZ K ρ H d x:=by
 unfold nK at h ⊢
 rw[←r.length]
 cases e:pF ds.length i with
 | none=>rw [e] at h;cases h
 | some j=>
   rw[e] at h
   exact r.get h
section
variable {X:Cx} {cl:Nat→Addr}
noncomputable def D1(fa fb:FX):FX:=fun δ S=>(fa δ S).bind fun a S1=>(fb δ S1).bind fun b S2=>match a,b with
 | .d x, .d y=>(R3.of (c0 x y) S2).bind fun d S=> .ok (.d d) S
 | .lst vs, .d (.int i)=>(match nK vs i with | some v=> .ok v S2 | none=> .no)
 | .tup vs, .d (.int i)=>(match nK vs i with | some v=> .ok v S2 | none=> .no)
 | _,_=> .no
theorem x9{a b:Expr}{fa fb:FX}{pos:Pos}(ha:PX X cl a fa)(hb:PX X cl b fb)(hs:oz b):PX X cl (.Subscript a b pos) (D1 fa fb):=by
 refine⟨(DH (r:=IL X.K) zK ha.1 hb.1 hs).imp fun σ H Q ⟨ρ,S,δ,v,S',E,hf,q⟩=>?_⟩
 obtain⟨v1,S1,h1,h2⟩:=R3.aj hf
 obtain⟨v2,S2,h3,h4⟩:=R3.aj h2
 refine⟨ρ,S,δ,v1,S1,E,h1,fun u1 ρ1 H1 p1 w1 r1=>⟨ρ1,S1,δ,v2,S2,E.to p1 w1,h3,fun u2 ρ2 H2 p2 w2 r2=>?_⟩⟩
 have r1':=r1.pre p2
 have p12:=p1.trans p2
 split at h4
 ·rename_i x y
  obtain⟨d,S3,h5,h6⟩:=R3.aj h4
  obtain⟨h7,e7⟩:=R3.of_ok h5
  cases h6
  subst e7
  unfold aZ at r1' r2
  unfold c0 at h7
  split at h7
  ·split at h7
   ·rename_i e
    cases h7
    obtain⟨p,xs,rfl,l,rs⟩:=Rep.lst.mp r1'
    obtain⟨y,e1,e2⟩:=ma rs e
    exact .inl ⟨p,xs,_,y,rfl,Rep.int.mp r2,l.sq,e1,q y ρ2 H2 p12 w2 (by unfold aZ;exact e2)⟩
   ·cases h7
  ·split at h7
   ·rename_i e
    cases h7
    obtain⟨p,xs,rfl,l,rs⟩:=Rep.tup.mp r1'
    obtain⟨y,e1,e2⟩:=ma rs e
    exact .inr (.inl ⟨p,xs,_,y,rfl,Rep.int.mp r2,l.sq,e1,q y ρ2 H2 p12 w2 (by unfold aZ;exact e2)⟩)
   ·cases h7
  ·obtain⟨hl,h8⟩:=R.bf h7
   split at h8
   ·rename_i e
    cases h8
    exact .inr (.inr ⟨_,_,_,Rep.str.mp r1',Rep.int.mp r2,of_decide_eq_true hl,e,q _ ρ2 H2 p12 w2 (by unfold aZ;exact Rep.str.mpr rfl)⟩)
   ·cases h8
  ·cases h7
 ·split at h4
  ·rename_i e
   cases h4
   unfold aZ at r1' r2
   obtain⟨p,xs,rfl,l,rs⟩:=r1'
   obtain⟨y,e1,e2⟩:=rg rs e
   exact .inl ⟨p,xs,_,y,rfl,Rep.int.mp r2,l.sq,e1,q y ρ2 H2 p12 w2 e2⟩
  ·cases h4
 ·split at h4
  ·rename_i e
   cases h4
   unfold aZ at r1' r2
   obtain⟨p,xs,rfl,l,rs⟩:=r1'
   obtain⟨y,e1,e2⟩:=rg rs e
   exact .inr (.inl ⟨p,xs,_,y,rfl,Rep.int.mp r2,l.sq,e1,q y ρ2 H2 p12 w2 e2⟩)
  ·cases h4
 ·cases h4
end
end L3
end
section
set_option maxRecDepth 100000
set_option maxHeartbeats 4000000
namespace L3
open PySem PySem.Spec PyProof.Rows L2
section
variable {X:Cx} {cl:Nat→Addr}
structure D9 (X:Cx) (cl:Nat→Addr) (e:Expr) (f:FB):Prop where
 go:L2.PW X e (Ge X.K cl f)
theorem D9.pb{e:Expr}{f:FB}(h:D9 X cl e f):yH X cl e f:=⟨L2.PW.pt h.1⟩
noncomputable def Dm(f g:FB):FB:=fun δ S=>(f δ S).bind fun b S=>if b then g δ S else .ok false S
noncomputable def LA(f g:FB):FB:=fun δ S=>(f δ S).bind fun b S=>if b then .ok true S else g δ S
noncomputable def EO(f:FB):FB:=fun δ S=>(f δ S).bind fun b S=> .ok (!b) S
theorem ud{a:Expr}{f:FB}{pos:Pos}(h:yH X cl a f):D9 X cl (.BoolOp .And [a] pos) f:=⟨xQ h.1⟩
theorem wQ{a b:Expr}{rest:List Expr}{f g:FB}{pos:Pos}(ha:yH X cl a f)(hb:D9 X cl (.BoolOp .And (b ::rest) pos) g):D9 X cl (.BoolOp .And (a ::b ::rest) pos) (Dm f g):=⟨by
 intro wh pins s σ H Q I ⟨ρ,S,δ,k,S',E,hf,q⟩
 refine BF ha.1 hb.1 wh pins s σ H Q I ?_
 obtain⟨c,S1,h1,h2⟩:=R3.aj hf
 refine⟨ρ,S,δ,c,S1,E,h1,fun ρ1 H1 p1 w1=>?_⟩
 cases c with
 | true=>rw [if_pos rfl] at h2 ⊢;exact⟨ρ1,S1,δ,k,S',E.to p1 w1,h2,fun ρ2 H' p2 w2=>q ρ2 H' (p1.trans p2) w2⟩
 | false=>rw [if_neg (by decide)] at h2 ⊢;cases h2;exact q ρ1 H1 p1 w1⟩
theorem Dy{a:Expr}{f:FB}{pos:Pos}(ha:yH X cl a f):yH X cl (.UnaryOp .Not a pos) (EO f):=⟨(AW ha.1).imp fun σ H Q ⟨ρ,S,δ,k,S',E,hf,q⟩=>by
 obtain⟨c,S1,h1,h2⟩:=R3.aj hf
 cases h2
 exact⟨ρ,S,δ,c,_,E,h1,fun ρ1 H1 p1 w1=>q ρ1 H1 p1 w1⟩⟩
noncomputable def yB(f:FX):FB:=fun δ S=>(f δ S).bind fun v S=>match v with | .d d=>R3.of (o4 d) S | _=> .no
theorem Cd{a:Expr}{f:FX}(ha:PX X cl a f)(ht:∀{t:TE},PE X a t→PT X a (fun σ H Q=>t σ H fun x H'=>∃b,CM X.K x H' b∧Q b H')):yH X cl a (yB f):=
 ⟨(ht ha.1).imp fun σ H Q ⟨ρ,S,δ,b,S',E,hf,q⟩=>by
   obtain⟨v,S1,h1,h2⟩:=R3.aj hf
   split at h2
   ·rename_i d
    obtain⟨h3,e3⟩:=R3.of_ok h2
    subst e3
    exact⟨ρ,S,δ, .d d,_,E,h1,fun u ρ1 H1 p1 w1 r1=>⟨b,zr (by unfold aZ at r1;exact r1) h3,q ρ1 H1 p1 w1⟩⟩
   ·cases h2⟩
noncomputable abbrev D3:=DE→aH→R3 (Option Int)
noncomputable def Kx(K:PySem.W.Frag)(cl:Nat→Addr)(f:D3):TO:=fun σ H Q=>∃ρ S δ o S',eM K cl ρ H S σ δ∧f δ S= .ok o S'∧∀ρ' H',Pre ρ H ρ' H'→SW K cl ρ' H' S'→Q o H'
structure H_ (X:Cx) (cl:Nat→Addr) (e:Option Expr) (f:D3):Prop where
 go:PO X e (Kx X.K cl f)
noncomputable def wa:D3:=fun _ S=> .ok none S
noncomputable def vf(f:FX):D3:=fun δ S=>(f δ S).bind fun v S=>match v with | .d (.int i)=> .ok (some i) S | _=> .no
theorem AN:H_ X cl none wa:=⟨xH.imp fun σ H Q ⟨ρ,S,δ,o,S',E,hf,q⟩=>by cases hf;exact q ρ H (Pre.refl ρ H) E.sw⟩
theorem Am{e:Expr}{f:FX}(h:PX X cl e f):H_ X cl (some e) (vf f):=⟨(xk h.1).imp fun σ H Q ⟨ρ,S,δ,o,S',E,hf,q⟩=>by
 obtain⟨v,S1,h1,h2⟩:=R3.aj hf
 split at h2
 ·rename_i i
  cases h2
  exact⟨ρ,S,δ, .d (.int i),_,E,h1,fun u ρ1 H1 p1 w1 r1=>⟨i,Rep.int.mp (by unfold aZ at r1;exact r1),q ρ1 H1 p1 w1⟩⟩
 ·cases h2⟩
noncomputable def Lk(f:FX)(fl fh:D3):FX:=fun δ S=>(f δ S).bind fun v S1=>(fl δ S1).bind fun lo S2=>(fh δ S2).bind fun hi S3=>match v with
 | .d d=>(R3.of (Hm d lo hi) S3).bind fun r S=> .ok (.d r) S
 | _=> .no
end
end L3
end
section
set_option maxRecDepth 100000
set_option maxHeartbeats 4000000
namespace L2
open PySem PySem.Spec PyProof.Rows
section
variable {X:Cx}
noncomputable def qf(t T:String):Bool:=t==T || (t=="bool" && T=="int")
noncomputable def u7(T:String)(f:FD):FD:=fun δ=>(f δ).bind fun d=>match d with | .dct _ _=> .no | _=> .ok (.bl (qf (tyName d) T))
noncomputable def nList(f:FD):aw→R (List D):=fun δ=>(f δ).bind fun d=>match d with | .lst ds=> .ok ds | .tup ds=> .ok ds | _=> .no
theorem Aw{p pos:Pos}{e:Expr}{f:FD}(he:QD X e f)(hg:Gl X "list")(hm:X.mg "list"=none)
 (hs:starEach [e] X.env=(false,eval e X.env) ::starEach [] X.env:=by rfl) (hpl:(backTo pos (starEach [] X.env)).any (·.1)=false:=by rfl):QN X (.Call (.Name "list" p) [e] [] pos) (nList f):=by
 refine⟨(mQ r9 hg hm boot_list (eT he.1 gH hs) (by decide) (by decide) hs hpl).imp fun σ H Q ⟨Z,B,δ,ds,E,hf,q⟩=>?_⟩
 obtain⟨d,h1,h2⟩:=R.aj hf
 refine⟨Z,B,δ,d,E,h1,fun v H1 s1 r1=>?_⟩
 split at h2
 ·cases h2
  obtain⟨a,ys,rfl,l,r⟩:=Rep.lst.mp r1
  exact⟨a,ys,rfl, .inl l.sq,fun p hp=>q p ys _ (s1.trans (aP hp)) (s1.free hp) aQ (r.bo (mw hp))⟩
 ·cases h2
  obtain⟨a,ys,rfl,l,r⟩:=Rep.tup.mp r1
  exact⟨a,ys,rfl, .inr l.sq,fun p hp=>q p ys _ (s1.trans (aP hp)) (s1.free hp) aQ (r.bo (mw hp))⟩
 ·cases h2
end
end L2
namespace L3
open PySem PySem.Spec PyProof.Rows L2
theorem cj{P:Program}{w:World}{K:PySem.W.Frag}{mg:Str→Option Value}{base:Heap}{cl:Nat→Addr}{x qual:Str}{st:Stmt}{f:Addr}{fd:FuncData}{N ps:List Str}{k:Nat}{F:FZ}{b:List Stmt}{sc:Scope}(hb:ao st=b)(hs:ag st=sc)(Fn:wR K x qual st f fd)(S:ba N ps sc)
 (hbody:∀(cdv:Value) (A:Around) (outer:List Env) (s:Shared) (H:Hp) (E:XK),dZ k (A.deeper (envOfC qual sc s.heap.objs.size f cdv))→
   zl (qc qp P w K mg base N qual sc f cdv A outer s H E).B9 cl b F):gM P w K mg base qp (k+1) f fd ps (AF K cl ps.length (lL N F)):=by
 subst hb hs
 exact Cv Fn S hbody
theorem aF.p{P:Program}{w:World}{K:PySem.W.Frag}{mg:Str→Option Value}{base:Heap}{cl:Nat→Addr}{k:Nat}{x:Str}{n:Nat}{N:List Str}{F:FZ}(C:aF P w K mg base cl k x n (lL N F)):aF P w K mg base cl k x n (mP N F):=
 let⟨f,fd,ps,F,h⟩:=C;⟨f,fd,ps,F.imp fun _ _ _ _ h=>vY h,h⟩
noncomputable def HS(N:List Str)(F:FZ):List D→R D:=fun ds=>match mP N F (ds.map .d) [] with
 | .ok (.d d) []=>R.bE d.atom (.ok d)
 | _=> .no
theorem FQ{K:PySem.W.Frag}{cl:Nat→Addr}{N:List Str}{F:FZ}{n:Nat}{vs:List V}{H:Hp}{Q:VK}{E:XK}(h:AB K n (HS N F) vs H Q E):AF K cl n (lL N F) vs H Q E:=by
 obtain⟨hl,B,ds,d,hb,r,hg,q⟩:=h
 unfold HS at hg
 split at hg
 ·rename_i d' e
  obtain⟨ha,h2⟩:=R.bf hg
  cases h2
  have r0:aC K (⟨[],[],[]⟩:P3).b H ds vs:=r.bo fun b o e _=>⟨e,by simp [P3.b]⟩
  refine vY ⟨hl,⟨[],[],[]⟩,[],ds.map .d, .d d,[],⟨rfl,fun i j a hi=>by simp at hi,fun k a o hk=>by simp at hk,fun b hb=>by simp at hb,fun k a hk=>by simp at hk,fun b hb=>by simp at hb,fun k a hk=>by simp at hk⟩,az.of r0,e,fun u ρ' H' p w' r'=>q u H' (fun b o eb=>?_) ?_⟩
  ·exact(p.bo b o eb (by simp [P3.b])).1
  ·unfold aZ at r'
   exact r'.atom ha
 ·cases hg
section
variable {X:Cx} {cl:Nat→Addr}
theorem oH{a:Expr}{f:FX}(ha:PX X cl a f)(he:∀whole,isTrue a X.env whole=(do let v ←whole;standAt a.pos;holding [v] (truthy v)):=by intro _;rfl):yH X cl a (yB f):=Cd ha fun h=>uV h he
theorem tp{g:List D→R D}{k j n:Nat}{x:Str}{p pos:Pos}{e:Expr}{es:List Expr}{fs:FA}(C:Callee X.prog X.w X.K X.mg X.base k x n g)(hr:dZ j X.A)(hkj:k≤j)(hg:Gl X x)(ha:zO X cl (e ::es) fs)
 (hn:∀δ S ds S',fs δ S= .ok ds S'→ds.length=n) (hdb:(x==("__debug__":Str))=false:=by decide) (he:starEach (e ::es) X.env=(false,eval e X.env) ::starEach es X.env:=by rfl) (hpl:(backTo pos (starEach es X.env)).any (·.1)=false:=by rfl) :
 PX X cl (.Call (.Name x p) (e ::es) [] pos) (jA g fs):=by
 obtain⟨f,fd,ps,F,hm,hk,hb⟩:=C
 refine⟨(sI F (hr.mono hkj) hg hm hk hb .nil uk ha.1 hdb he hpl).imp fun σ H Q ⟨ρ,S,δ,v,S',E,hf,q⟩=>?_⟩
 obtain⟨vs,S1,h1,h2⟩:=R3.aj hf
 split at h2
 ·rename_i ds e
  obtain⟨d,S2,h3,h4⟩:=R3.aj h2
  obtain⟨h5,e5⟩:=R3.of_ok h3
  cases h4
  subst e5
  refine⟨ρ,S,δ,vs,_,E,h1,fun us ρ1 H1 p1 w1 r1=>?_⟩
  have hl:=hn δ S vs _ h1
  rw[gS e] at r1
  show AB X.K n g (us++[]) H1 Q E0
  rw[List.append_nil]
  exact⟨by rw[←r1.length,←gS e];exact hl,ρ1.b,ds,d,w1.bs,r1.to,h5,fun z H' s r=>q z ρ1 H' (p1.trans (Pre.same s)) (w1.same s) (by unfold aZ;exact r)⟩
 ·cases h2
noncomputable def IK(f:FX):FA:=fun δ S=>(f δ S).bind fun v S=>match v with | .d (.tup ds)=> .ok (ds.map .d) S | .tup vs=> .ok vs S | _=> .no
end
end L3
end
section
set_option maxRecDepth 100000
set_option maxHeartbeats 4000000
namespace L3
open PySem PySem.Spec PyProof.Rows L2
noncomputable def W3{α:Type}(r:R3 α)(Q:α→aH→Prop):Prop:=∃a S,r= .ok a S∧Q a S
section
variable {α β:Type} {Q Q':α→aH→Prop} {S:aH} {δ:DE}
theorem W3.ok{a:α}(h:Q a S):W3 (.ok a S) Q:=⟨a,S,rfl,h⟩
theorem W3.bind{Q:β→aH→Prop}{r:R3 α}{f:α→aH→R3 β}(h:W3 r fun a S=>W3 (f a S) Q):W3 (r.bind f) Q:=by
 obtain⟨a,S1,e1,b,S2,h2,q⟩:=h
 exact⟨b,S2,by rw[e1];exact h2,q⟩
theorem W3.mono{r:R3 α}(h:W3 r Q)(m:∀a S,Q a S→Q' a S):W3 r Q':=let⟨a,S,e,q⟩:=h;⟨a,S,e,m a S q⟩
theorem W3.wh{c:Bool}{r:R3 α}(hc:c=true)(h:W3 r Q):W3 (R3.bE c r) Q:=by rw[hc];exact h
theorem W3.of{r:R α}{a:α}(e:r= .ok a)(h:Q a S):W3 (R3.of r S) Q:=by rw[e];exact⟨a,S,rfl,h⟩
end
section
variable {S:aH} {δ:DE} {QV:V3→aH→Prop} {QB:Bool→aH→Prop} {QA:List V3→aH→Prop} {QO:Ou→aH→Prop}
theorem cB{f:FD}{d:D}(e:f (down δ)= .ok d)(h:QV (.d d) S):W3 (xP f δ S) QV:=W3.bind (W3.of e (W3.ok h))
theorem xp{f:FD}{d:D}(e:f (cD S δ)= .ok d)(ha:md d=true)(h:QV (.d d) S):W3 (xT f δ S) QV:=W3.bind (W3.of e (W3.wh ha (W3.ok h)))
theorem rH{f:aw→R Bool}{b:Bool}(e:f (down δ)= .ok b)(h:QB b S):W3 (bP f δ S) QB:=W3.of e h
theorem CK{f:aw→R Bool}{b:Bool}(e:f (cD S δ)= .ok b)(h:QB b S):W3 (bT f δ S) QB:=W3.of e h
theorem w_var{i:Nat}{v:V3}(e:δ[i]? =some (some v))(h:QV v S):W3 (bK i δ S) QV:=by unfold bK;rw [e];exact W3.ok h
theorem i7{f:aw→R (List D)}{ds:List D}(e:f (down δ)= .ok ds)(h:QV (.loc S.length) (S++[.lst ds])):W3 (lH f δ S) QV:=W3.bind (W3.of e (W3.ok h))
theorem cf(h:QA [] S):W3 (bU δ S) QA:=W3.ok h
theorem ax{f:FX}{g:FA}(h:W3 (f δ S) fun v S1=>W3 (g δ S1) fun vs S2=>QA (v ::vs) S2):W3 (av f g δ S) QA:=W3.bind (h.mono fun _ _ h=>W3.bind (h.mono fun _ _ h=>W3.ok h))
theorem qW{g:FA}(h:W3 (g δ S) fun vs S1=>vs.length≤sizeLine∧QV (j3 vs) S1):W3 (uq g δ S) QV:=W3.bind (h.mono fun _ _ h=>W3.wh (decide_eq_true h.1) (W3.ok h.2))
theorem GI{g:FA}(h:W3 (g δ S) fun vs S1=>vs.length≤sizeLine∧QV (iy vs) S1):W3 (EA g δ S) QV:=W3.bind (h.mono fun _ _ h=>W3.wh (decide_eq_true h.1) (W3.ok h.2))
theorem FK{g:D→D→R D}{fa fb:FX}(h:W3 (fa δ S) fun a S1=>W3 (fb δ S1) fun b S2=>∃x y d,a= .d x∧b= .d y∧g x y= .ok d∧QV (.d d) S2):W3 (x2 g fa fb δ S) QV:=
 W3.bind (h.mono fun _ _ h=>W3.bind (h.mono fun _ _ ⟨_,_,_,e1,e2,e3,q⟩=>by subst e1 e2;exact W3.bind (W3.of e3 (W3.ok q))))
theorem GV{g:D→D→R D}{fa fb:FX}(h:W3 (fa δ S) fun a S1=>W3 (fb δ S1) fun b S2=>∃x y k,a= .d x∧b= .d y∧g x y= .ok (.bl k)∧QB k S2):W3 (HX g fa fb δ S) QB:=
 W3.bind (FK (h.mono fun _ _ h=>h.mono fun _ _ ⟨x,y,k,e1,e2,e3,q⟩=>⟨x,y, .bl k,e1,e2,e3,W3.ok q⟩))
theorem ET{fa fb:FX}(h:W3 (fa δ S) fun a S1=>W3 (fb δ S1) fun b S2=>∃x y d,a= .d x∧b= .d y∧c0 x y= .ok d∧QV (.d d) S2):W3 (D1 fa fb δ S) QV:=
 W3.bind (h.mono fun _ _ h=>W3.bind (h.mono fun _ _ ⟨_,_,_,e1,e2,e3,q⟩=>by subst e1 e2;exact W3.bind (W3.of e3 (W3.ok q))))
theorem I_{QP:Option Int→aH→Prop}(h:QP none S):W3 (wa δ S) QP:=W3.ok h
theorem Ir{QP:Option Int→aH→Prop}{f:FX}(h:W3 (f δ S) fun v S1=>∃i,v= .d (.int i)∧QP (some i) S1):W3 (vf f δ S) QP:=W3.bind (h.mono fun _ _ ⟨_,e,q⟩=>by subst e;exact W3.ok q)
theorem cV{g:List V3→aH→R3 V3}{fs:FA}(h:W3 (fs δ S) fun vs S1=>W3 (g vs S1) QV):W3 (bQ g fs δ S) QV:=W3.bind h
theorem oA{g:List D→R D}{fs:FA}(h:W3 (fs δ S) fun vs S1=>∃ds d,vs=ds.map .d∧g ds= .ok d∧QV (.d d) S1):W3 (jA g fs δ S) QV:=
 W3.bind (h.mono fun _ _ ⟨ds,_,e1,e2,q⟩=>by subst e1;rw [pL];exact W3.bind (W3.of e2 (W3.ok q)))
theorem BG{it:FA}{t:FG}{c:FB}{f:FX}{own:List Str}{kp:List Nat}(h:W3 (it δ S) fun vs S1=>vs.length≤sizeLine∧W3 (kD t c f (fQ own kp δ) vs S1) fun ys S2=>QV (iy ys) S2):W3 (jJ it t c f own kp δ S) QV:=
 W3.bind (h.mono fun _ _ h=>W3.wh (decide_eq_true h.1) (W3.bind (h.2.mono fun _ _ h=>W3.ok h)))
theorem zU{f:FX}(h:W3 (f δ S) fun v S1=>∃d b,v= .d d∧o4 d= .ok b∧QB b S1):W3 (yB f δ S) QB:=W3.bind (h.mono fun _ _ ⟨_,_,e,e2,q⟩=>by subst e;exact W3.of e2 q)
theorem w_not{f:FB}(h:W3 (f δ S) fun b S1=>QB (!b) S1):W3 (EO f δ S) QB:=W3.bind (h.mono fun _ _ h=>W3.ok h)
theorem aT{F G:FZ}(h:W3 (F δ S) fun o S1=>∃δ1,o= .nx δ1∧W3 (G δ1 S1) QO):W3 (bu F G δ S) QO:=W3.bind (h.mono fun _ _ ⟨_,e,h⟩=>by subst e;exact h)
theorem zN{F G:FZ}(h:W3 (F δ S) fun o S1=>∃v,o= .rt v∧QO (.rt v) S1):W3 (bu F G δ S) QO:=W3.bind (h.mono fun _ _ ⟨_,e,h⟩=>by subst e;exact W3.ok h)
theorem bF{i:Nat}{f:FX}(hi:i < δ.length)(h:W3 (f δ S) fun v S1=>QO (.nx (δ.set i (some v))) S1):W3 (cy i f δ S) QO:=W3.bind (h.mono fun _ _ h=>W3.wh (decide_eq_true hi) (W3.ok h))
theorem fq{f:FX}(h:W3 (f δ S) fun v S1=>QO (.rt v) S1):W3 (gG f δ S) QO:=W3.bind (h.mono fun _ _ h=>W3.ok h)
theorem mF{c:FB}{F G:FZ}(h:W3 (c δ S) fun b S1=>if b then W3 (F δ S1) QO else W3 (G δ S1) QO):W3 (sV c F G δ S) QO:=W3.bind (h.mono fun b _ h=>by cases b <;> exact h)
theorem DU{f:FX}{t:FG}(h:W3 (f δ S) fun v S1=>∃δ1,t v δ=some δ1∧QO (.nx δ1) S1):W3 (Cg f t δ S) QO:=W3.bind (h.mono fun _ _ ⟨_,e,q⟩=>by rw[e];exact W3.ok q)
theorem fT(h:QO (.nx δ) S):W3 (ku δ S) QO:=W3.ok h
theorem lY{f:aw→R (List D)}{ds:List D}(e:f (down δ)= .ok ds)(h:QA (ds.map .d) S):W3 (iP f δ S) QA:=W3.bind (W3.of e (W3.ok h))
theorem oT{f:FX}(h:W3 (f δ S) fun v S1=>∃n:Nat,v= .d (.int n)∧n < 1000000∧QA ((dS 0 n).map .d) S1):W3 (lX f δ S) QA:=W3.bind (h.mono fun _ _ ⟨n,e,hn,q⟩=>by
 subst e
 refine W3.wh (decide_eq_true ⟨by omega,by omega⟩) (W3.ok ?_)
 rw[Int.toNat_natCast];exact q)
theorem yg{f:FX}(h:W3 (f δ S) fun v S1=>∃ds,v= .d (.lst ds)∧QA (ds.map .d) S1):W3 (y8 f δ S) QA:=W3.bind (h.mono fun _ _ ⟨n,e,q⟩=>by subst e;exact W3.ok q)
theorem CL{f:FX}(h:W3 (f δ S) fun v S1=>∃vs,v= .lst vs∧QA vs S1):W3 (y8 f δ S) QA:=W3.bind (h.mono fun _ _ ⟨n,e,q⟩=>by subst e;exact W3.ok q)
theorem fS{it:FA}{t:FG}{F:FZ}(h:W3 (it δ S) fun vs S1=>W3 (iS t F vs δ S1) QO):W3 (i0 it t F δ S) QO:=W3.bind h
theorem kU{i k:Nat}{f:FX}(hk:δ[i]? =some (some (.loc k)))(h0:∃ds,S[k]? =some (.lst ds))(h:W3 (f δ S) fun v S1=>∃d ds,v= .d d∧S1[k]? =some (.lst ds)∧ds.length < sizeLine∧QO (.nx δ) (S1.set k (.lst (ds++[d])))):W3 (lT i f δ S) QO:=by
 obtain⟨es,h0⟩:=h0
 unfold lT
 have e1:eI δ i=some k:=by unfold eI;rw [hk]
 have e2:bW S k=some es:=by unfold bW;simp only[h0]
 rw[e1];show W3 (match bW S k with | none=>_ | some _=>_) _
 rw[e2]
 refine W3.bind (h.mono fun v S1 ⟨d,ds,e,h1,hl,q⟩=>?_)
 subst e
 have e3:bW S1 k=some ds:=by unfold bW;simp only[h1]
 show W3 (match bW S1 k with | some ds=>_ | none=>_) _
 rw[e3]
 exact W3.wh (decide_eq_true hl) (W3.ok q)
theorem DP{fo fi fe:FX}(h:W3 (fe δ S) fun v S1=>W3 (fo δ S1) fun o S2=>W3 (fi δ S2) fun j S3=>∃d k n ds m,v= .d d∧o= .loc k∧j= .d (.int n)∧S3[k]? =some (.lst ds)∧pF ds.length n=some m∧QO (.nx δ) (S3.set k (.lst (ds.set m d)))):W3 (Dr fo fi fe δ S) QO:=
 W3.bind (h.mono fun _ _ h=>W3.bind (h.mono fun _ _ h=>W3.bind (h.mono fun _ S3 ⟨d,k,n,ds,m,e1,e2,e3,h1,h2,q⟩=>by
  subst e1 e2 e3
  have e3:bW S3 k=some ds:=by unfold bW;simp only[h1]
  show W3 (match bW S3 k with | some ds=>_ | none=>_) _
  rw[e3]
  show W3 (match pF ds.length n with | some m=>_ | none=>_) _
  rw[h2]
  exact W3.ok q)))
theorem oX{t:FG}{body:FZ}:∀(vs:List V3) (n:Nat) (P:Nat→DE→aH→Prop) {δ:DE} {S:aH},P n δ S→
 (∀i v δ S,vs[i]? =some v→P (n+i) δ S→∃δ1,t v δ=some δ1∧W3 (body δ1 S) fun o S1=>∃δ2,o= .nx δ2∧P (n+i+1) δ2 S1)→W3 (iS t body vs δ S) fun o S1=>∃δ2,o= .nx δ2∧P (n+vs.length) δ2 S1
 | [],n,P,δ,S,h0,_=>W3.ok ⟨δ,rfl,h0⟩
 | v ::vs,n,P,δ,S,h0,hs=>by
   obtain⟨δ1,e1,o,S1,e2,δ2,rfl,p2⟩:=hs 0 v δ S rfl h0
   have ih:=oX vs (n+1) P p2 (fun i v' δ' S' hi hp=>by
    have:=hs (i+1) v' δ' S' (by simpa using hi) (by rw[show n+(i+1)=n+1+i by omega];exact hp)
    rw[show n+(i+1)+1=n+1+i+1 by omega] at this
    exact this)
   rw[show n+1+vs.length=n+(v ::vs).length by rw[List.length_cons];omega] at ih
   unfold iS
   rw[e1]
   refine W3.bind ⟨_,_,e2,?_⟩
   exact ih
theorem cu{t:FG}{body:FZ}{vs:List V3}(P:Nat→DE→aH→Prop){δ:DE}{S:aH}(h0:P 0 δ S)
 (hs:∀i v δ S,vs[i]? =some v→P i δ S→∃δ1,t v δ=some δ1∧W3 (body δ1 S) fun o S1=>∃δ2,o= .nx δ2∧P (i+1) δ2 S1):W3 (iS t body vs δ S) fun o S1=>∃δ2,o= .nx δ2∧P vs.length δ2 S1:=by
 have:=oX (t:=t) (body:=body) vs 0 P h0 (fun i v δ S hi hp=>by simpa using hs i v δ S hi (by simpa using hp))
 simpa using this
theorem oO{t:FG}{c:FB}{f:FX}{δ:DE}:∀(vs:List V3) (n:Nat) (P:Nat→List V3→aH→Prop) {ys:List V3} {S:aH},P n ys S→
 (∀i v ys S,vs[i]? =some v→P (n+i) ys S→∃δ1,t v δ=some δ1∧W3 (c δ1 S) fun b S1=>if b then W3 (f δ1 S1) fun y S2=>P (n+i+1) (ys++[y]) S2 else P (n+i+1) ys S1)→W3 (kD t c f δ vs S) fun zs S1=>P (n+vs.length) (ys++zs) S1
 | [],n,P,ys,S,h0,_=>W3.ok (by rw[List.append_nil];exact h0)
 | v ::vs,n,P,ys,S,h0,hs=>by
   obtain⟨δ1,e1,b,S1,e2,h2⟩:=hs 0 v ys S rfl h0
   have ih:∀{ys' S'},P (n+1) ys' S'→W3 (kD t c f δ vs S') fun zs S1=>P (n+(v ::vs).length) (ys'++zs) S1:=fun {ys' S'} p=>by
    have:=oO (t:=t) (c:=c) (f:=f) (δ:=δ) vs (n+1) P p (fun i v' ys' S' hi hp=>by
     have:=hs (i+1) v' ys' S' (by simpa using hi) (by rw[show n+(i+1)=n+1+i by omega];exact hp)
     rw[show n+(i+1)+1=n+1+i+1 by omega] at this
     exact this)
    rw[show n+1+vs.length=n+(v ::vs).length by rw[List.length_cons];omega] at this
    exact this
   unfold kD
   rw[e1]
   refine W3.bind ⟨b,S1,e2,?_⟩
   cases b with
   | true=>
     rw[if_pos rfl] at h2 ⊢
     exact W3.bind (h2.mono fun y S2 p=>W3.bind ((ih p).mono fun zs S3 q=>W3.ok (by rw[List.append_assoc] at q;exact q)))
   | false=>rw [if_neg (by decide)] at h2 ⊢;exact ih h2
theorem qF{t:FG}{c:FB}{f:FX}{δ:DE}{vs:List V3}(P:Nat→List V3→aH→Prop){S:aH}(h0:P 0 [] S)
 (hs:∀i v ys S,vs[i]? =some v→P i ys S→∃δ1,t v δ=some δ1∧W3 (c δ1 S) fun b S1=>if b then W3 (f δ1 S1) fun y S2=>P (i+1) (ys++[y]) S2 else P (i+1) ys S1):W3 (kD t c f δ vs S) fun zs S1=>P vs.length zs S1:=by
 have:=oO (t:=t) (c:=c) (f:=f) (δ:=δ) vs 0 P h0 (fun i v ys S hi hp=>by simpa using hs i v ys S hi (by simpa using hp))
 simpa using this
theorem yc{QB:Bool→aH→Prop}(h:QB true S):W3 (yI δ S) QB:=W3.ok h
theorem tT{N:List Str}{F:FZ}{vs:List V3}{δ:DE}(e:bM N vs=δ)(h:W3 (F δ S) fun o S1=>∃v,o= .rt v∧QV v S1):W3 (lL N F vs S) QV:=by
 subst e
 exact W3.bind (h.mono fun _ _ ⟨_,e,q⟩=>by subst e;exact W3.ok q)
noncomputable def J0(S:aH):Prop:=∀o∈S,∃ds,o=SO.lst ds
end
end L3
namespace L3
open PySem PySem.Spec PyProof.Rows L2
section
variable {S:aH} {δ:DE} {QV:V3→aH→Prop}
theorem l7{it:FA}{t:FG}{c:FB}{f:FX}{own:List Str}{kp:List Nat}(P:Nat→List D→aH→Prop)(h:W3 (it δ S) fun vs S1=>vs.length≤sizeLine∧P 0 [] S1∧
 (∀i v ds S2,vs[i]? =some v→P i ds S2→∃δ1,t v (fQ own kp δ)=some δ1∧W3 (c δ1 S2) fun b S3=>if b then W3 (f δ1 S3) fun y S4=>∃d,y= .d d∧P (i+1) (ds++[d]) S4 else P (i+1) ds S3)∧
 ∀ds S2,P vs.length ds S2→QV (.d (.lst ds)) S2):W3 (jJ it t c f own kp δ S) QV:=by
 refine BG (h.mono fun vs S1 ⟨hl,h0,hs,hq⟩=>⟨hl,?_⟩)
 refine(qF (fun i ys S=>∃ds,ys=ds.map V3.d∧P i ds S) ⟨[],rfl,h0⟩ ?_).mono fun zs S2 ⟨ds,e,p⟩=>?_
 ·rintro i v ys S2 hv ⟨ds,rfl,p⟩
  obtain⟨δ1,e1,h1⟩:=hs i v ds S2 hv p
  refine⟨δ1,e1,h1.mono fun b S3 h3=>?_⟩
  cases b with
  | true=>
    rw[if_pos rfl] at h3 ⊢
    exact h3.mono fun y S4 ⟨d,e,p⟩=>by subst e;exact⟨ds++[d],by simp,p⟩
  | false=>rw [if_neg (by decide)] at h3 ⊢;exact⟨ds,rfl,h3⟩
 ·subst e
  unfold iy
  rw[pL]
  exact hq ds S2 p
structure gp (n:Nat) (d:D):Prop where
 pl:eX d=true
 ly:(toPy d).canLay0=true
 dp:(toPy d).depth≤n
theorem gp.int(i:Int):gp 0 (.int i):=⟨by unfold eX;rfl,by unfold toPy PyData.canLay0;rfl,by unfold toPy PyData.depth;omega⟩
theorem gp.bl(b:Bool):gp 0 (.bl b):=⟨by unfold eX;rfl,by unfold toPy PyData.canLay0;rfl,by unfold toPy PyData.depth;omega⟩
theorem gp.str{s:Str}(h:(PyData.str s).canLay0=true):gp 0 (.str s):=⟨by unfold eX;rfl,by unfold toPy;exact h,by unfold toPy PyData.depth;omega⟩
theorem gp.mono{n m:Nat}{d:D}(h:gp n d)(hm:n≤m):gp m d:=⟨h.pl,h.ly,Nat.le_trans h.dp hm⟩
theorem gp.all{n:Nat}:∀{ds:List D},(∀d∈ds,gp n d)→iM ds=true∧PyData.canLayAll0 (jN ds)=true∧PyData.depthAll (jN ds)≤n
 | [],_=>⟨by unfold iM;rfl,by unfold jN PyData.canLayAll0;rfl,by unfold jN PyData.depthAll;omega⟩
 | d ::ds,h=>by
   obtain⟨h1,h2,h3⟩:=gp.all (ds:=ds) fun x hx=>h x (List.mem_cons_of_mem _ hx)
   have f:=h d List.mem_cons_self
   refine⟨by unfold iM;rw [f.pl,h1];rfl,by unfold jN PyData.canLayAll0;rw [f.ly,h2];rfl,?_⟩
   unfold jN PyData.depthAll
   have:=f.dp
   omega
theorem gp.lst{n:Nat}{ds:List D}(h:∀d∈ds,gp n d):gp (n+1) (.lst ds):=by
 obtain⟨h1,h2,h3⟩:=gp.all h
 exact⟨by unfold eX;exact h1,by unfold toPy PyData.canLay0;exact h2,by unfold toPy PyData.depth;omega⟩
theorem gp.tup{n:Nat}{ds:List D}(h:∀d∈ds,gp n d):gp (n+1) (.tup ds):=by
 obtain⟨h1,h2,h3⟩:=gp.all h
 exact⟨by unfold eX;exact h1,by unfold toPy PyData.canLay0;exact h2,by unfold toPy PyData.depth;omega⟩
theorem gp.sh{n:Nat}{d:D}(h:gp n d)(hn:n≤64):SeqAt.shaped (toPy d)=true:=by
 unfold SeqAt.shaped
 rw[h.ly,decide_eq_true (Nat.le_trans h.dp hn)]
 rfl
theorem wK{d e:List D}:BO (.lst d) (.lst e)=R.bE (eX (.lst d) && eX (.lst e) && SeqAt.shaped (toPy (.lst d)) && SeqAt.shaped (toPy (.lst e))) (.ok (PyData.eqv (toPy (.lst d)) (toPy (.lst e)))):=rfl
end
end L3
namespace L3
open PySem PySem.Spec PyProof.Rows L2
theorem wc{α:Type}(ds:List α){n:Int}(h:0≤n):L2.cutD ds none (some n)=ds.take n.toNat:=by
 obtain⟨k,rfl⟩:=Int.eq_ofNat_of_zero_le h
 unfold L2.cutD
 rw[HT.oJ,HT.sO,List.drop_zero,Nat.sub_zero,Int.toNat_natCast]
 by_cases hk:k≤ds.length
 ·rw[Nat.min_eq_left hk]
 ·rw[Nat.min_eq_right (by omega),List.take_of_length_le (Nat.le_refl _),List.take_of_length_le (by omega)]
theorem Ao{α:Type}(ds:List α){n:Int}(h:0≤n):L2.cutD ds (some n) none=ds.drop n.toNat:=by
 obtain⟨k,rfl⟩:=Int.eq_ofNat_of_zero_le h
 unfold L2.cutD
 rw[HT.oJ,HT.sO,Int.toNat_natCast,List.take_of_length_le (by rw[List.length_drop];omega)]
 by_cases hk:k≤ds.length
 ·rw[Nat.min_eq_left hk]
 ·rw[Nat.min_eq_right (by omega),List.drop_of_length_le (Nat.le_refl _),List.drop_of_length_le (by omega)]
end L3
end
section
set_option maxRecDepth 100000
set_option maxHeartbeats 4000000
namespace L2
open PySem PySem.Spec PyProof.Rows
section
variable {X:Cx}
noncomputable def zx:D→Bool | .cK=>true | _=>false
noncomputable def Ld(d e:D):R D:=match e with | .cK=> .ok (.bl (zx d)) | _=> .no
noncomputable def AR(d e:D):R D:=match e with | .cK=> .ok (.bl (!zx d)) | _=> .no
theorem Cw{K:PySem.W.Frag}{B:List Addr}{H:Hp}{d:D}{x:V}(r:Rep K B H d x):decide (x= .cK)=zx d:=by
 cases d with
 | cK=>rw [Rep.cK.mp r];rfl
 | bl b=>rw [Rep.bl.mp r];rfl
 | int b=>rw [Rep.int.mp r];rfl
 | str b=>rw [Rep.str.mp r];rfl
 | lst ds=>obtain⟨a,xs,rfl,_⟩:=Rep.lst.mp r;rfl
 | tup ds=>obtain⟨a,xs,rfl,_⟩:=Rep.tup.mp r;rfl
 | dct ks ds=>unfold Rep at r;obtain⟨a,xs,rfl,_⟩:=r;rfl
theorem HD:jB X (compareOp .IsNot) AR:=jB.of Ce fun B H da db d x y Q _ ra rb hg q=>by
 unfold AR at hg
 split at hg
 ·cases hg
  exact⟨Rep.cK.mp rb,by rw[Cw ra];exact q _ H (aS.refl H) (Rep.bl.mpr rfl)⟩
 ·cases hg
noncomputable def G1:List D→R D
 | [.str x]=>R.bE (decide (x.length≤640)) (match PySem.intText? x with | some n=> .ok (.int n) | none=> .no)
 | _=> .no
noncomputable def JG(ds:List D):R D:=match ds with | [.str _]=>G1 ds | _=>cInt ds
noncomputable def KW(f:FD):FD:=fun δ=>(f δ).bind fun d=>match d with | .int i=> .ok (.int (-i)) | _=> .no
noncomputable def JP(d:D)(ds:List D):R D:=match d,ds with
 | .str x,[.str y]=> .ok (.int (Txt.find x y))
 | _,_=> .no
noncomputable def Kf(kvs:List (Str × Str)):D:= .dct (kvs.map fun p=>Sum.inr p.1) (kvs.map fun p=> .str p.2)
noncomputable def Lm(kvs:List (Str × Str)):List (Key × V):=kvs.map fun p=>((Sum.inr p.1:Key),V.str p.2)
noncomputable def KN(d k:D):R D:=match d,k with
 | .dct ks ds, .str x=>(match (ks.zip ds).find? fun p=>decide (p.1=Sum.inr x) with | some p=> .ok p.2 | none=> .no)
 | _,_=> .no
end
theorem G2{P:Program}{w:World}{K:PySem.W.Frag}{mg:Str→Option Value}{base:Heap}{k n:Nat}{f:Addr}{fd:FuncData}{ps:List Str}:gM P w K mg base qp k f fd ps (AB K n fun _=> .no):=
 ⟨fun vs H Q E h=>(by obtain⟨_,_,_,_,_,_,h,_⟩:=h;cases h),fun A outer s H args us vs Q E _ _ _ _ h=>(by obtain⟨_,_,_,_,_,_,h,_⟩:=h;cases h)⟩
end L2
namespace L3
open PySem PySem.Spec PyProof.Rows L2
section
variable {X:Cx} {cl:Nat→Addr}
noncomputable def Jw(f:FX):FB:=fun δ S=>(f δ S).bind fun v S=>match v with | .d (.bl b)=> .ok b S | _=> .no
noncomputable def KH(f g:FX):FX:=fun δ S=>(Jw f δ S).bind fun b S=>if b then g δ S else .ok (.d (.bl false)) S
noncomputable def Lj(f g:FX):FX:=fun δ S=>(Jw f δ S).bind fun b S=>if b then .ok (.d (.bl true)) S else g δ S
noncomputable def Bd(i:Nat)(F:FZ):FZ:=fun δ S=>match eI δ i with
 | some k=>(match bW S k with | some ds=>F (δ.set i (some (.d (.lst ds)))) (S.set k .iE) | none=> .no)
 | none=> .no
theorem Cy(i:Nat){sts:List Stmt}{F:FZ}(h:zl X cl sts F):zl X cl sts (Bd i F):=⟨h.1.imp fun D σ H ⟨ρ,S,δ,o,S',E,hf,q⟩=>by
 unfold Bd at hf
 split at hf
 ·rename_i k hk
  split at hf
  ·rename_i ds hds
   obtain⟨v,v1,v2⟩:=E.val i _ (ip hk)
   unfold aZ at v2
   obtain⟨a,a1,rfl⟩:=v2
   obtain⟨w,p,r⟩:=E.sw.iE a1 (cJ hds)
   have E1:eM X.K cl ⟨ρ.r,ρ.z,a ::ρ.f⟩ H (S.set k .iE) σ (δ.set i (some (.d (.lst ds)))):=⟨by rw[List.length_set];exact E.len,w,fun j d e=>by
    by_cases h:i=j
    ·subst h
     rw[List.getElem?_set_self (by obtain⟨h1,_⟩:=List.getElem?_eq_some_iff.mp (ip hk);exact h1)] at e
     cases e
     exact⟨_,v1,by unfold aZ;exact r⟩
    ·rw[List.getElem?_set_ne h] at e
     obtain⟨u,u1,u2⟩:=E.val j d e
     exact⟨u,u1,u2.pre p⟩⟩
   exact⟨_,_,_,o,S',E1,hf,q.pre p⟩
  ·cases hf
 ·cases hf⟩
theorem GL{i k:Nat}{ds:List D}{F:FZ}{δ:DE}{S:aH}{QO:Ou→aH→Prop}(hk:δ[i]? =some (some (.loc k)))(hS:S[k]? =some (.lst ds))(h:W3 (F (δ.set i (some (.d (.lst ds)))) (S.set k .iE)) QO):W3 (Bd i F δ S) QO:=by
 unfold Bd
 have e1:eI δ i=some k:=by unfold eI;rw [hk]
 have e2:bW S k=some ds:=by unfold bW;simp only[hS]
 simp only[e1,e2]
 exact h
end
noncomputable def Flat(S:aH):Prop:=∀o∈S,∀n,lq n o=true
theorem Flat.all{S:aH}(h:Flat S)(n:Nat):(S.take n).all (lq n)=true:=List.all_eq_true.mpr fun o ho=>h o (List.mem_of_mem_take ho) n
theorem Flat.set{S:aH}(h:Flat S)(k:Nat){x:SO}(hx:∀n,lq n x=true):Flat (S.set k x):=fun o ho=>by
 rcases List.mem_or_eq_of_mem_set ho with z | z
 ·exact h o z
 ·rw[z];exact hx
theorem Flat.push{S:aH}(h:Flat S){x:SO}(hx:∀n,lq n x=true):Flat (S++[x]):=fun o ho=>by
 rcases List.mem_append.mp ho with z | z
 ·exact h o z
 ·rw[List.mem_singleton.mp z];exact hx
theorem Flat.take{S:aH}(h:Flat S)(n:Nat):Flat (S.take n):=fun o ho=>h o (List.mem_of_mem_take ho)
theorem Flat.nil:Flat []:=fun o ho=>by cases ho
theorem qS{N:List Str}{F:FZ}{vs:List V3}{S:aH}{QV:V3→aH→Prop}(h:W3 (lL N F vs S) fun v S1=>Flat S1∧fw S.length v=true∧∃d,res S1 v=some d∧QV (.d d) (S1.take S.length)):W3 (mP N F vs S) QV:=
 W3.bind (h.mono fun v S1 ⟨hl,hg,d,e,q⟩=>by
  rw[e]
  exact W3.wh (by rw[hl.all,hg];rfl) (W3.ok q))
end L3
end
section
set_option maxRecDepth 100000
set_option maxHeartbeats 4000000
namespace PySem
open Sem (wp)
open AutoSeq1 (wpAny_loadPart')
section
variable {prog:Program} {w:World} {A:Around} {E:Value→Shared→Prop} {s:Shared}
end
end PySem
namespace L2
open PySem PySem.Spec PyProof.Rows
section
variable {X:Cx}
noncomputable def HZ(f:FD):FD:=fun δ=>(f δ).bind fun d=>match d with
 | .int j=>R.bE (decide (-(2 ^ 62)≤j∧j < 16777216)) (.ok (.tup (dS 0 j.toNat)))
 | _=> .no
end
end L2
end
section
set_option maxRecDepth 100000
set_option maxHeartbeats 4000000
namespace PySem
open Sem (wp)
open AutoSeq1 (wpAny_loadPart')
section
variable {prog:Program} {w:World} {A:Around} {E:Value→Shared→Prop} {s:Shared}
theorem jQ{it l:Addr}{i:Nat}{items:Array Value}{x:Value}{Q:Value→Shared→Prop}(hit:s.heap.IsTupleIter it l i)(hl:s.heap.IsTuple l items)(hx:items[i]? =some x)
 (hQ:∀h',h'.IsTupleIter it l (i+1)→Heap.SameBut it s.heap h'→Q x {s with heap:=h'}):wpAny (model prog w) A (Builtin.SmallTypes.nextOf (.ref it)) Q E s:=by
 obtain⟨o,ho,hc,hd⟩:=id hit;obtain⟨ol,hol,_,nl,hdl⟩:=hl
 unfold Builtin.SmallTypes.nextOf
 refine wpAny_bind (wpAny_callSpecial?_slot (name:=Str.ofString "__next__") hit.typeIs F.slot_tuple_iterator_next (wpAny_call_entry F.slot_tuple_iterator_next hit.typeIs F.entry_tuple_iterator_next ?_ (F.args_tuple_iterator_next_1 _)))
 show wpAny _ _ (field (.ref it) 0 >>=_) _ _ s;refine wpAny_bind (wpAny_field ho hd (x:= .ref l) rfl ?_)
 show wpAny _ _ (if(Value.ref l==Value.none)=true then _ else _) _ _ s;rw [if_neg (show ¬((Value.ref l==Value.none)=true) from Bool.false_ne_true)]
 show wpAny _ _ (field (.ref it) 1 >>=_) _ _ s;refine wpAny_bind (wpAny_field ho hd (x:= .int i 0) rfl ?_)
 show wpAny _ _ (seqItems? (.ref l) >>=_) _ _ s;refine wpAny_bind (wpAny_seqItems hol hdl ?_)
 simp only[Int.toNat_natCast,hx]
 refine wpAny_bind (wpAny_setField ho hd (by simp) (wpAny_pure ⟨x,rfl,wpAny_pure (hQ _ ⟨_,Heap.get?_update_self _ ho (Obj.isFreed_of_fields (Obj.data_mapFields hd _)),(Obj.cls_mapFields ..).trans hc,by rw[Obj.data_mapFields hd];simp [rawInt]⟩ (Heap.SameBut.update ..))⟩))
theorem iu{it l:Addr}{i:Nat}{items:Array Value}{Q:Value→Shared→Prop}(hh:A.handled=none)(hit:s.heap.IsTupleIter it l i)(hl:s.heap.IsTuple l items)(hx:items[i]? =none)
 (hE:∀h' e,Heap.ExtBut it s.heap h'→(∃o,h'.get? e=some o∧o.cls= .type "StopIteration")→E (.ref e) {s with heap:=h'}):wpAny (model prog w) A (Builtin.SmallTypes.nextOf (.ref it)) Q E s:=by
 obtain⟨o,ho,hc,hd⟩:=id hit;obtain⟨ol,hol,_,nl,hdl⟩:=hl
 unfold Builtin.SmallTypes.nextOf
 refine wpAny_bind (wpAny_callSpecial?_slot (name:=Str.ofString "__next__") hit.typeIs F.slot_tuple_iterator_next (wpAny_call_entry F.slot_tuple_iterator_next hit.typeIs F.entry_tuple_iterator_next ?_ (F.args_tuple_iterator_next_1 _)))
 show wpAny _ _ (field (.ref it) 0 >>=_) _ _ s;refine wpAny_bind (wpAny_field ho hd (x:= .ref l) rfl ?_)
 show wpAny _ _ (if(Value.ref l==Value.none)=true then _ else _) _ _ s;rw [if_neg (show ¬((Value.ref l==Value.none)=true) from Bool.false_ne_true)]
 show wpAny _ _ (field (.ref it) 1 >>=_) _ _ s;refine wpAny_bind (wpAny_field ho hd (x:= .int i 0) rfl ?_)
 show wpAny _ _ (seqItems? (.ref l) >>=_) _ _ s;refine wpAny_bind (wpAny_seqItems hol hdl ?_)
 simp only[Int.toNat_natCast,hx]
 refine wpAny_bind (wpAny_rule (wpAny_bind (wpAny_setField ho hd (by simp) ?_)))
 show wpAny _ _ (newExc (.type "StopIteration") [] >>=_) _ _ _;refine wpAny_bind ?_;simp only[newExc,newTuple]
 refine wpAny_bind (wpAny_newObj_type ?_ (by size_fits))
 refine wpAny_bind (m:=firstArgMember _ _) (wpAny_of_eq (a:=Value.none) (by first | rfl | (simp only[firstArgMember];rfl)) ?_);refine wpAny_newObj_type ?_ (by size_fits)
 simp only[raiseNew];refine wpAny_bind (wpAny_handled ?_)
 first | rw[show A.in1.handled=none from hh] | rw[hh]
 exact wpAny_bind (wpAny_pure (wpAny_throw (hE _ _ (((Heap.SameBut.update ..).extBut.push _).push _) ⟨_,Heap.get?_push_size _ rfl,rfl⟩)))
end
theorem zf{prog:Program}{w:World}{A:Around}(hh:A.handled=none)(it l:Addr)(hne:l≠it)(items:Array Value) :
 Draws prog w A it [it,l] items.size (fun i v=>items[i]? =some v) (fun i h=>h.IsTupleIter it l i∧h.IsTuple l items) where
 live:=fun _ _ st=>let⟨o,ho,_⟩:=st.1;⟨o,ho⟩
 frame:=fun _ _ _ st hk=>⟨st.1.at fun o e=>hk it (by simp) o e,Heap.IsTuple.at st.2 fun o e=>hk l (by simp) o e⟩
 item:=fun i s Q E hi st hQ=>jQ st.1 st.2 (x:=items[i]) (by simp [hi]) fun h' hit' hs'=>hQ _ h' s.toks (by simp [hi]) ⟨hit',st.2.extBut hs'.extBut hne⟩ hs'
 done:=fun s Q E st hE=>iu hh st.1 st.2 (by simp) hE
theorem oh(l:Addr)(items:Array Value)(o:Obj)(n:Nat)(hc:o.cls= .type "tuple")(hd:o.data= .seq items n) :
 Meets (Builtin.«enumerate.__new__» ⟨[.type "enumerate", .ref l],[]⟩) (fun _ R s=>s.heap.get? l=some o∧
  R (.ok (.ret (.ref (s.heap.push {cls:= .type "tuple_iterator",data:= .fields #[.ref l, .int 0 0]}).objs.size)))
   {s with heap:=(s.heap.push {cls:= .type "tuple_iterator",data:= .fields #[.ref l, .int 0 0]}).push {cls:= .type "enumerate",data:= .fields #[.none, .bool false, .ref s.heap.objs.size,rawInt 0, .none, .none]}}):=
 .of_wp fun prog w A R s h=>by
  obtain⟨hp,g,d,tk,os⟩:=s;obtain⟨hl,h⟩:=h
  have hsub:=sub_enumerate
  have hL:Heap.IsTuple (Shared.heap ⟨hp,g,d,tk,os⟩) l items:=⟨_,hl,hc,n,hd⟩
  wp_walk using wpAny_loadPart' hl
  refine wpAny_stack_any fun st=>wpAny_pure ?_
  split
  ·rename_i c _ _ _ _ _
   cases(c==Value.type "enumerate") <;> (wp_walk using wpAny_loadPart' hl,wpAny_pyIter_tuple hL;exact⟨_,rfl,h⟩)
  ·wp_walk using wpAny_loadPart' hl,wpAny_pyIter_tuple hL
   exact⟨_,rfl,h⟩
theorem wD{prog:Program}{w:World}{A:Around}{E:Value→Shared→Prop}{s:Shared}{l:Addr}{items:Array Value}{Q:Value→Shared→Prop}(hL:s.heap.IsTuple l items)
 (h:∀h':Heap,IsEnum h' (s.heap.objs.size+1) s.heap.objs.size 0 .none→h'.IsTupleIter s.heap.objs.size l 0→(∀b o,s.heap.get? b=some o→h'.get? b=some o)→Q (.ref (s.heap.objs.size+1)) {s with heap:=h'}) :
 wpAny (model prog w) A (call (.type "enumerate") [.ref l]) Q E s:=by
 obtain⟨o,hl,hc,n,hd⟩:=hL
 refine callType_new F.called_enumerate (by decide) (F.typeCall_enumerate_1 _) (F.newCall_enumerate_1 _) (fun obj=>F.args_object_init_2 obj _) F.entry_enumerate_new (oh l items o n hc hd) ⟨hl,?_⟩
 have hz:(s.heap.push {cls:= .type "tuple_iterator",data:= .fields #[.ref l, .int 0 0]}).objs.size=s.heap.objs.size+1:=Heap.size_push ..
 show _∧_;rw [hz]
 have he:IsEnum ((s.heap.push {cls:= .type "tuple_iterator",data:= .fields #[.ref l, .int 0 0]}).push {cls:= .type "enumerate",data:= .fields #[.none, .bool false, .ref s.heap.objs.size,rawInt 0, .none, .none]}) (s.heap.objs.size+1) s.heap.objs.size 0 .none:=by
  have:=Heap.get?_push_size (s.heap.push {cls:= .type "tuple_iterator",data:= .fields #[.ref l, .int 0 0]}) (o:={cls:= .type "enumerate",data:= .fields #[.none, .bool false, .ref s.heap.objs.size,rawInt 0, .none, .none]}) rfl
  rw[hz] at this;exact this
 exact⟨⟨_,he,rfl⟩,h _ he ⟨_,Heap.get?_push_of_some _ (Heap.get?_push_size _ rfl),rfl,rfl⟩ fun b o x=>Heap.get?_push_of_some _ (Heap.get?_push_of_some _ x)⟩
end PySem
namespace L2
open PySem PySem.Spec PyProof.Rows
noncomputable def Ie(K:PySem.W.Frag)(a:Addr):It:=
 ⟨fun i H=>∃xs x,nV K H a xs∧xs[i]? =some x,fun i H v H'=>∃p x,H p=none∧v= .ref p∧(∀xs,nV K H a xs→xs[i]? =some x)∧H'=upd H p (.tup [.int i,x]),fun i H=>∃xs,nV K H a xs∧xs.length≤i⟩
theorem vd{P:Program}{w:World}{K:PySem.W.Frag}{elts:List Expr}{k:Nat}{pos:Pos}(a e it:Addr)(hei:e≠it):Turn P w K (.Tuple elts k pos) (Ie K a) [e,it] e (fun i h=>(∃old,IsEnum h e it ((i:Nat):Int) old)∧h.IsTupleIter it a i) where
 mem:=by simp
 obj:=fun i h st b hb=>by
  obtain⟨⟨old,he⟩,o,ho,c,d⟩:=st
  rcases List.mem_cons.mp hb with rfl | hb
  ·exact⟨_,he,fun v z=>by cases z⟩
  ·have e:b=it:=by simpa using hb
   subst e
   exact⟨o,ho,fun v z=>by rw[d] at z;cases z⟩
 keep:=fun i h h' st k=>by
  obtain⟨⟨old,he⟩,hi⟩:=st
  exact⟨⟨old,k e (by simp) _ he⟩,hi.at fun o x=>k it (by simp) o x⟩
 item:=by
  intro X hP hw hK hc i pins s σ H E I hf st hg
  subst hP hw hK
  obtain⟨xs,x,hq,hx⟩:=hg
  obtain⟨its,rv,p,hz⟩:=I.tuple hq
  have p':s.heap.IsTuple a its.toArray:=p
  obtain⟨u,hu,ru⟩:=rv.get hx
  obtain⟨⟨old,he⟩,hit⟩:=st
  obtain⟨f0,f1,f2,f3,f4,f5⟩:=hf e (by simp)
  obtain⟨g0,g1,g2,g3,g4,g5⟩:=hf it (by simp)
  have ha_it:a≠it:=fun z=>by
   obtain⟨o1,h1,c1,_⟩:=p'
   obtain⟨o2,h2,c2,_⟩:=hit
   rw[z,h2] at h1;cases h1
   rw[c2] at c1;exact absurd c1 (by decide)
  have ha_e:e ∉ [it,a]:=fun z=>by
   rcases List.mem_cons.mp z with q | q
   ·exact hei q
   ·have q:e=a:=by simpa using q
    obtain⟨o1,h1,c1,_⟩:=p'
    rw[←q,he] at h1;cases h1
    exact absurd (show Value.type "enumerate"=Value.type "tuple" from c1) (by decide)
  refine wpAny_pyNext_enum_itemD (zf (A:=X.A.in1) (I.ok.hd hc) it a ha_it its.toArray) he ⟨hit,p'⟩ (by have:=(List.getElem?_eq_some_iff.mp hu).1;simpa using this) hei ha_e fun u2 h₁ tk hu2 heo st₁ ht₁ hz₁ hk₁=>⟨_,rfl,?_⟩
  obtain rfl:u2=u:=by
   have h1:its[i]? =some u2:=by simpa using hu2
   rw[hu] at h1;cases h1;rfl
  obtain⟨hit₁,_⟩:=st₁
  refine wpAny_letOwnedTupleGo_enum heo fun h₂ he₂ hs₂=>?_
  replace hs₂:Heap.SameBut e h₁ h₂:=hs₂
  have hel:e < s.heap.objs.size:=Heap.lt_size he
  have ht₂:h₂.get? s.heap.objs.size=some {cls:= .type "tuple",data:= .seq #[.int i tk,u2]}:=(hs₂.2 _ (Nat.ne_of_gt hel)).trans ht₁
  have kk:∀b o,b≠e→b≠it→s.heap.get? b=some o→h₂.get? b=some o:=fun b o h1 h2 q=>(hs₂.2 b h1).trans (hk₁ b o h1 h2 q)
  have hn:H s.heap.objs.size=none:=I.fresh
  have sm:aS H (upd H s.heap.objs.size (.tup [.int i,x])):=aP hn
  have nit:∀b o,H b=some o→b≠e∧b≠it:=fun b o q=>⟨fun z=>(by rw[z,f0] at q;cases q),fun z=>(by rw[z,g0] at q;cases q)⟩
  have hok:k3 X.prog X.w (upd H s.heap.objs.size (.tup [.int i,x])) h₂:=fun b ob q=>by
   by_cases hb:b=s.heap.objs.size
   ·subst hb
    rw[aQ] at q
    cases q
    exact⟨by show 2≤sizeLine;decide,[.int i tk,u2], .cons ⟨_,rfl⟩ (.cons ru .nil),⟨_,ht₂,rfl,_,rfl⟩⟩
   ·rw[bc hb] at q
    refine(I.hok b ob q).sH (fun c v hc z=>?_) (fun c z=>sm c _ z) fun c ys z=>sm c _ z
    rcases hc with rfl | hc
    ·exact kk c v (nit c _ q).1 (nit c _ q).2 z
    ·exact kk c v (nit c _ hc).1 (nit c _ hc).2 z
  have nch:∀b,b ∉ [e,it]→b≠e∧b≠it:=fun b hb=>⟨fun z=>hb (by simp [z]),fun z=>hb (by simp [z])⟩
  have I2:Inv X pins σ (upd H s.heap.objs.size (.tup [.int i,x])) {s with heap:=h₂,toks:=tk+1}:=by
   refine I.step (g':=s.gens) (d':=s.drawn) (ch:=[e,it]) (fun b hb=>?_) (fun b o _ _ hb q _=>kk b o (nch b hb).1 (nch b hb).2 q) (fun b o _ _ hb q _=>⟨o.slots,kk b o (nch b hb).1 (nch b hb).2 q⟩)
    (fun b o hb q n=>by rw[bc (Nat.ne_of_lt (Heap.lt_size q))];exact n) (fun b o hb q=>⟨o,kk b o (nch b hb).1 (nch b hb).2 q⟩) (fun b ys z=>sm b _ z) (fun b o u z=>sm b _ z) (fun b ps z=>⟨#[],by rw[sm b _ z];simp⟩) (fun m hm=>?_) hok I.bare
   ·rcases List.mem_cons.mp hb with rfl | hb
    ·exact⟨f3,f1,f4,f5⟩
    ·have z:b=it:=by simpa using hb
     subst z
     exact⟨g3,g1,g4,g5⟩
   ·obtain⟨o,es,ep,ho,r⟩:=hm
    exact⟨o,es,ep,kk _ o (Ne.symm f1) (Ne.symm g1) ho,r⟩
  refine⟨.ref s.heap.objs.size,_,I2,rfl,⟨s.heap.objs.size,x,hn,rfl,fun ys hy=>(by rw[I.m6 hy hq];exact hx),rfl⟩,⟨⟨_,by simpa using he₂⟩,hit₁.at fun o q=>(hs₂.2 it (Ne.symm hei)).trans q⟩,fun b hb=>?_⟩
  rcases List.mem_cons.mp hb with rfl | hb
  ·rw[bc (Nat.ne_of_lt hel)];exact f0
  ·have z:b=it:=by simpa using hb
   subst z
   obtain⟨o,ho,_⟩:=hit
   rw[bc (Nat.ne_of_lt (Heap.lt_size ho))];exact g0
 done:=by
  intro X hP hw hK hc i pins s σ H E I hf st hg
  subst hP hw hK
  obtain⟨xs,hq,hx⟩:=hg
  obtain⟨its,rv,p,hz⟩:=I.tuple hq
  have p':s.heap.IsTuple a its.toArray:=p
  obtain⟨⟨old,he⟩,hit⟩:=st
  obtain⟨g0,g1,g2,g3,g4,g5⟩:=hf it (by simp)
  have hl:=rv.length
  have hT:s.TypeIs (.ref e) "enumerate":=⟨_,he,rfl⟩
  unfold pyNext
  refine wpAny_bind (wpAny_attempt (wpAny_callSpecial?_slot (name:=Str.ofString "__next__") hT F.slot_enumerate_next (wpAny_call_entry F.slot_enumerate_next hT F.entry_enumerate_next ?_ (F.args_enumerate_next_1 _))))
  show wpAny _ _ (field (.ref e) 2 >>=_) _ _ _;refine wpAny_bind (wpAny_field he rfl (x:= .ref it) rfl ?_)
  refine wpAny_bind (iu (A:=X.A.in1) (I.ok.hd hc) hit p' (by simp;omega) fun h' x he' hx'=>?_)
  obtain⟨o,ho,hcl⟩:=hx'
  refine wpAny_bind (wpAny_isInstance (T:="StopIteration") (b:=true) ⟨o,ho,hcl⟩ isSubtype_stop ?_)
  exact wpAny_pure ⟨rfl,I.turned (t':=s.toks) (fun b o hb q=>he' b o hb q) g0 g1 g3 g4 g5⟩
 self:=fun A i s Q E st h=>let⟨⟨_,he⟩,_⟩:=st;wpAny_pyIter_enum he h
section
variable {X:Cx}
noncomputable def sf(f:FD):aw→R (List D):=fun δ=>(f δ).bind fun d=>match d with | .tup ds=> .ok (cX ds) | _=> .no
theorem ve{elts:List Expr}{k:Nat}{tpos:Pos}{a:Expr}{f:FD}{p pos:Pos}(h:QD X a f)(hg:Gl X "enumerate")(hm:X.mg "enumerate"=none)(hs:starEach [a] X.env=[(false,eval a X.env)]:=by rfl):xU X (.Tuple elts k tpos) (.Call (.Name "enumerate" p) [a] [] pos) (sf f):=by
 refine⟨?_⟩
 intro pins s σ H RR I ⟨Z,B,δ,ds,E,hf,q⟩
 obtain⟨d,h1,h2⟩:=R.aj hf
 have hA:=eT h.1 gH hs pos pins s σ H (fun vs H1=>aS H H1∧∃v,vs=[v]∧Rep X.K B H1 d v) I ⟨Z,B,δ,d,E,h1,fun v H1 s1 r1=>⟨s1,v,rfl,r1⟩⟩
 refine Call_ (lI I hg hm boot_enumerate (PyProof.Rows.callWith_type1 (dR hA fun us s1 ⟨vs,H1,I1,r1,ss,v,ev,rr⟩=>?_) hs rfl))
 subst ev
 obtain⟨u,rfl,ru⟩:=vals1 r1
 cases d with
 | tup es=>
   cases h2
   obtain⟨b,xs,rfl,l,rs⟩:=Rep.tup.mp rr
   cases ru
   obtain⟨its,rv,pt,hz⟩:=I1.tuple l.sq
   refine wD (items:=its.toArray) pt fun h' he hit kk=>wpAny_pyIter_enum he ?_
   have I2:Inv X pins σ H1 {s1 with heap:=h'}:=I1.kept (t':=s1.toks) kk
   refine⟨s1.heap.objs.size+1,[s1.heap.objs.size+1,s1.heap.objs.size],_,_,H1,rfl,I2,vd b (s1.heap.objs.size+1) s1.heap.objs.size (Nat.succ_ne_self _),⟨⟨_,he⟩,hit⟩,fun c hc=>?_,q _ H1 ss fun B' H' pr=>?_⟩
   ·have hle:s1.heap.objs.size≤c:=by
     rcases List.mem_cons.mp hc with z | hc
     ·rw[z];exact Nat.le_succ _
     ·have z:c=s1.heap.objs.size:=by simpa using hc
      rw[z];exact Nat.le_refl _
    exact I1.ql hle (I1.hok.fresh hle)
   ·have l':qZ X.K B' H' b xs:=l.elim (fun z=> .inl ⟨(pr.rd z.2 z.1).2,(pr.rd z.2 z.1).1⟩) .inr
    have rs':=rs.bo pr
    refine⟨fun i d hd=>?_,⟨xs,l'.sq,by rw[←rs.length];unfold cX;simp⟩⟩
    unfold cX at hd
    rw[List.getElem?_map,List.getElem?_zipIdx] at hd
    cases e:es[i]? with
    | none=>rw [e] at hd;cases hd
    | some d0=>
      rw[e] at hd
      have hd:D.tup [.int ((0+i:Nat):Int),d0]=d:=Option.some.inj hd
      rw[Nat.zero_add] at hd
      obtain⟨x,hx,rx⟩:=rs'.get e
      refine⟨⟨xs,x,l'.sq,hx⟩,fun v H'' y hB'=>?_⟩
      obtain⟨p,y,hp,rfl,hy,rfl⟩:=y
      refine⟨aP hp,?_⟩
      subst hd
      have hy2:=hy xs l'.sq
      rw[hx] at hy2
      cases hy2
      refine Rep.tup.mpr ⟨p,_,rfl, .inl ⟨fun ha=>?_, .inl aQ⟩,aC.cons (Rep.int.mpr rfl) (aC.cons (rx.same (aP hp)) aC.nil)⟩
      obtain⟨o,ho⟩:=hB' p ha
      rw[hp] at ho;cases ho
 | _=>cases h2
end
end L2
end
section
set_option maxRecDepth 100000
set_option maxHeartbeats 4000000
namespace L2
open PySem PySem.Spec PyProof.Rows
section
variable {X:Cx}
noncomputable abbrev J2:D→D→R D:=uc (fun _ j=>decide (0 < j∧j.natAbs.log2 < 9000)) fun i j=>i / j
theorem tL:∀{ns:List Int} {us:List Value},Vals (ns.map V.int) us→IntsAre us ns
 | [],_, .nil=> .nil
 | n ::ns,_, .cons r t=>by obtain⟨tk,rfl⟩:=r;exact .cons _ _ (tL t)
theorem Bs:∀{ns:List Int} {us:List Value},IntsAre us ns→Vals (ns.map V.int) us:=fun h=>by
 induction h with
 | nil=>exact .nil
 | cons _ _ _ ih=>exact .cons ⟨_,rfl⟩ ih
theorem tK{K:PySem.W.Frag}{B:List Addr}{H:Hp}{ds:List D}{xs:List V}(r:aC K B H ds xs):∀n:Nat,aC K B H (List.replicate n ds).flatten (List.replicate n xs).flatten
 | 0=>aC.nil
 | n+1=>by rw[List.replicate_succ,List.replicate_succ,List.flatten_cons,List.flatten_cons];exact r.append (tK r n)
noncomputable def Ds(f:aw→R (List D))(g:FD):aw→R (List D):=fun δ=>(f δ).bind fun ds=>(g δ).bind fun d=>match d with
 | .int k=>R.bE (decide (0≤k∧k < 1000000∧ds.length*k.toNat≤sizeLine)) (.ok (List.replicate k.toNat ds).flatten)
 | _=> .no
theorem Cz{a b:Expr}{f:aw→R (List D)}{g:FD}{pos:Pos}(ha:QN X a f)(hb:QD X b g):QN X (.BinOp a .Mult b pos) (Ds f g):=by
 refine⟨(Ag FP ha.1 hb.1).imp fun σ H Q ⟨Z,B,δ,es,E,hf,q⟩=>?_⟩
 obtain⟨ds,h1,h2⟩:=R.aj hf
 obtain⟨d,h3,h4⟩:=R.aj h2
 split at h4
 ·rename_i k
  obtain⟨h5,h6⟩:=R.bf h4
  cases h6
  obtain⟨k0,k1,k2⟩:=of_decide_eq_true h5
  refine⟨Z,B,δ,ds,E,h1,fun a xs H1 s1 n1 e1 r1=>⟨Z,B,δ, .int k,E.same s1,h3,fun v H2 s2 r2=>⟨a,k,xs,rfl,Rep.int.mp r2,s2 a _ e1,by omega,by omega,by rw[←r1.length];exact k2,fun p hp=>?_⟩⟩⟩
  refine q p _ _ (s1.trans (s2.trans (aP hp))) ((s1.trans s2).free hp) aQ ?_
  refine(tK r1 k.toNat).bo fun b o e nb=>⟨(s2.trans (aP hp)) b o e,fun hm=>?_⟩
  rcases List.mem_cons.mp hm with z | z
  ·rw[z] at e;rw [s2 p _ e] at hp;cases hp
  ·exact nb (List.mem_cons_of_mem _ z)
 ·cases h4
noncomputable def nM(ns:List Int):List Int:=ns.mergeSort fun a b=>decide (a≤b)
theorem uZ{a ns:List Int}(p:a.Perm ns)(o:a.Pairwise (·≤·)):a=nM ns:=by
 refine PySem.W.ksm_same (p.trans (List.mergeSort_perm ns _).symm) o ?_
 have:=List.pairwise_mergeSort (le:=fun a b:Int=>decide (a≤b)) (fun a b c h1 h2=>by simp at*;omega) (fun a b=>by simp;omega) ns
 exact this.imp fun h=>by simpa using h
noncomputable def oy:List D→R D
 | [.lst ds]=>(match ints? ds with | some ns=>R.bE (decide (ns.length < 64)) (.ok (.lst ((nM ns).map .int))) | none=> .no)
 | _=> .no
theorem Bn:ft X (.builtin "sorted") oy:=by
 intro pins s σ H B ds d xs us I hb rx rs hg
 unfold oy at hg
 split at hg
 ·split at hg
  ·rename_i es ns e
   obtain⟨h64,h2⟩:=R.bf hg
   cases h2
   have h64:=of_decide_eq_true h64
   obtain⟨x,rfl,r⟩:=rs.one
   obtain⟨a,ys,rfl,l,r⟩:=Rep.lst.mp r
   obtain⟨u,rfl,ru⟩:=vals1 rx
   cases ru
   obtain⟨its,n,rv,e1,hz⟩:=I.D0 l
   rw[gc r e] at rv
   have hl:s.heap.IsList a its.toArray:=⟨_,e1,rfl,n,rfl⟩
   have hlen:its.length=ns.length:=by have:=rv.length;simpa using this.symm
   refine sorted_ints hl (tL rv) (by omega) fun out ns' a1 a2 a3=>?_
   obtain⟨ep,he⟩:=sortedAll_at s.heap its out
   have hs:=uZ a2 a3
   subst hs
   have rv2:=Bs a1
   have hle:((nM ns).map V.int).length≤sizeLine:=by
    have h1:=a2.length_eq
    have hzz:sizeLine=16777216:=sizeLine_eq
    rw[List.length_map];omega
   have hn:H (s.heap.objs.size+1)=none:=I.hok.fresh (Nat.le_succ _)
   have I2:=I.laid (a:=s.heap.objs.size+1) (o:= .lst ((nM ns).map V.int)) (h':=sortedAll s.heap its out) (t':=s.toks) (fun b o q=>sortedAll_old q) (Nat.le_succ _) (show d5 X.prog X.w _ _ _ (.lst _) from⟨hle,out.toList,ep,rv2,by simpa [seqObj] using he⟩)
   refine⟨.ref (s.heap.objs.size+1),_,I2,rfl,aP hn,Rep.lst.mpr ⟨_,_,rfl, .rN aQ fun ha=>?_,ints_rep _⟩⟩
   obtain⟨o,ho⟩:=hb _ ha
   rw[hn] at ho;cases ho
  ·cases hg
 ·cases hg
theorem getD_in{l:List Int}{i:Nat}(h:i < l.length):l.getD i 0∈l:=by
 have e:l.getD i 0=l[i]:=by simp [h]
 rw[e];exact List.getElem_mem h
theorem fold_min:∀(ns:List Int) (n:Int),ns.foldl min n∈n ::ns∧∀a∈n ::ns,ns.foldl min n≤a
 | [],n=>⟨by simp,fun a ha=>by simp at ha;subst ha;exact Int.le_refl _⟩
 | x ::ns,n=>by
   obtain⟨h1,h2⟩:=fold_min ns (min n x)
   rw[List.foldl_cons]
   refine⟨?_,fun a ha=>?_⟩
   ·rcases List.mem_cons.mp h1 with z | z
    ·rw[z];by_cases hc:n≤x
     ·rw[Int.min_eq_left hc];simp
     ·rw[Int.min_eq_right (by omega)];simp
    ·exact List.mem_cons_of_mem _ (List.mem_cons_of_mem _ z)
   ·have hm:=h2 _ List.mem_cons_self
    rcases List.mem_cons.mp ha with z | z
    ·subst z;omega
    ·rcases List.mem_cons.mp z with z | z
     ·subst z;omega
     ·exact h2 a (List.mem_cons_of_mem _ z)
noncomputable def pG:List D→R D
 | [.lst ds]=>(match ints? ds with | some (n ::ns)=> .ok (.int (ns.foldl min n)) | _=> .no)
 | ds=>qi ds
noncomputable def JM:List D→R D
 | [.lst ds]=>(match ints? ds with | some (n ::ns)=> .ok (.int (ns.foldl max n)) | _=> .no)
 | ds=>Jm ds
theorem wL(hc:X.calm=true):ft X (.builtin "min") pG:=by
 intro pins s σ H B ds d xs us I hb rx rs hg
 unfold pG at hg
 split at hg
 ·split at hg
  ·rename_i es n ns e
   cases hg
   obtain⟨x,rfl,r⟩:=rs.one
   obtain⟨a,ys,rfl,l,r⟩:=Rep.lst.mp r
   obtain⟨u,rfl,ru⟩:=vals1 rx
   cases ru
   obtain⟨its,k,rv,e1,hz⟩:=I.D0 l
   rw[gc r e] at rv
   obtain⟨ps,rfl,hps⟩:=kW rv
   have hl:s.heap.IsList a (intItems ps.toArray):=⟨_,e1,rfl,k,by simp [intItems]⟩
   have hlp:ps.length=ns.length+1:=by have:=congrArg List.length hps;simpa using this
   refine min_intList (I.ok.hd hc) hl (by simp;omega) fun v h' tk hv hk=>?_
   obtain⟨t,rfl⟩:=intItems_at hv
   obtain⟨b1,b2⟩:=argBest_lt (numAt ps.toArray) (ps.toArray.size - 1)
   refine⟨.int _,H,I.kept hk,⟨t,rfl⟩,aS.refl H,Rep.int.mpr ?_⟩
   obtain⟨m1,m2⟩:=fold_min ns n
   have hge:∀j,j < ps.length→numAt ps.toArray j=(n ::ns).getD j 0:=fun j hj=>by rw[numAt_eq,←hps]
   have hin:numAt ps.toArray (argBest (fun i j=>decide (numAt ps.toArray i < numAt ps.toArray j)) (ps.toArray.size - 1))∈n ::ns:=by
    rw[hge _ (by simp at b1 ⊢;omega)];exact getD_in (by simp at b1 ⊢;omega)
   have hle:=m2 _ hin
   obtain⟨j,hj,ej⟩:=List.getElem_of_mem m1
   have hj':j < ns.length+1:=by simpa using hj
   have h3:=b2 j (by simp;omega)
   rw[hge j (by omega)] at h3
   have h4:(n ::ns).getD j 0=ns.foldl min n:=by rw[←ej,List.getD_eq_getElem?_getD,List.getElem?_eq_getElem hj];rfl
   rw[h4] at h3
   congr 1
   omega
  ·cases hg
 ·exact HC hc pins s σ H B _ d xs us I hb rx rs hg
end
end L2
namespace L3
open PySem PySem.Spec PyProof.Rows L2
noncomputable def HE(S:aH):V3→Option (List D)
 | .d (.lst ds)=>some ds
 | .loc k=>bW S k
 | _=>none
section
variable {X:Cx} {cl:Nat→Addr}
noncomputable def K3(fa fb:FX):FX:=fun δ S=>(fa δ S).bind fun a S1=>(fb δ S1).bind fun b S2=>match HE S2 a,HE S2 b with
 | some ds,some es=>R3.bE (decide (ds.length+es.length≤sizeLine)) (.ok (.loc S2.length) (S2++[.lst (ds++es)]))
 | _,_=> .no
noncomputable def Lb(i:Nat):FZ:=fun δ S=>match eI δ i with
 | none=> .no
 | some k=>(match bW S k with | some _=> .ok (.nx δ) (S.set k (.lst [])) | none=> .no)
end
end L3
end
section
set_option maxRecDepth 100000
set_option maxHeartbeats 4000000
namespace L3
open PySem PySem.Spec PyProof.Rows L2
noncomputable def jV(S:aH)(c k:Nat):Option (List (Str × V3)):=match S[k]? with | some (.ins c' fs)=>(if c'=c then some fs else none) | _=>none
theorem jx{S:aH}{c k:Nat}{fs:List (Str × V3)}(h:jV S c k=some fs):S[k]? =some (.ins c fs):=by
 unfold jV at h
 split at h
 ·rename_i c' fs' e
  split at h
  ·rename_i hc;cases h;rw [e,hc]
  ·cases h
 ·cases h
theorem xh{K:PySem.W.Frag}{ρ:P3}{H:Hp}{f:Str}{v:V3}:∀{fs:List (Str × V3)} {ys:List (Str × V)},ys.map (·.1)=fs.map (·.1)→az K ρ H (fs.map (·.2)) (ys.map (·.2))→fs.lookup f=some v→∃x,ys.lookup f=some x∧aZ K ρ H v x
 | [],ys,_,_,h=>by simp at h
 | (g,w) ::fs,[],e,_,_=>by simp at e
 | (g,w) ::fs,(g',y) ::ys,e,r,h=>by
   obtain⟨e1,e2'⟩:=List.cons.inj e
   have e1:g'=g:=e1
   subst e1
   obtain⟨x,xs,ex,r1,r2⟩:=r.bJ
   cases ex
   rw[List.lookup_cons] at h ⊢
   cases hq:f==g' with
   | true=>rw [hq] at h;cases h;exact⟨y,rfl,r1⟩
   | false=>rw [hq] at h;exact xh e2' r2 h
theorem uj{f:Str}:∀{fs:List (Str × V3)} {ys:List (Str × V)},ys.map (·.1)=fs.map (·.1)→fs.lookup f=none→ys.lookup f=none
 | [],[],_,_=>rfl
 | [],_ ::_,e,_=>by simp at e
 | _ ::_,[],e,_=>by simp at e
 | (g,w) ::fs,(g',y) ::ys,e,h=>by
   obtain⟨e1,e2'⟩:=List.cons.inj e
   have e1:g'=g:=e1
   subst e1
   rw[List.lookup_cons] at h ⊢
   cases hq:f==g' with
   | true=>rw [hq] at h;cases h
   | false=>rw [hq] at h;exact uj e2' h
noncomputable def ui(f:Str)(v:V3):List (Str × V3)→List (Str × V3)
 | []=>[(f,v)]
 | (g,x) ::r=>if g=f then(g,v) ::r else(g,x) ::ui f v r
theorem xX{K:PySem.W.Frag}{ρ:P3}{H:Hp}{f:Str}{v:V3}{u:V}(rv:aZ K ρ H v u):∀{fs:List (Str × V3)} {ys:List (Str × V)},ys.map (·.1)=fs.map (·.1)→az K ρ H (fs.map (·.2)) (ys.map (·.2))→
 (iX f u ys).map (·.1)=(ui f v fs).map (·.1)∧az K ρ H ((ui f v fs).map (·.2)) ((iX f u ys).map (·.2))
 | [],[],_,_=>⟨rfl,az.cons rv az.nil⟩
 | [],_ ::_,e,_=>by simp at e
 | _ ::_,[],e,_=>by simp at e
 | (g,w) ::fs,(g',y) ::ys,e,r=>by
   obtain⟨e1,e2'⟩:=List.cons.inj e
   have e1:g'=g:=e1
   subst e1
   obtain⟨x,xs,ex,r1,r2⟩:=r.bJ
   cases ex
   unfold ui iX
   by_cases hg:g'=f
   ·rw[if_pos hg,if_pos hg]
    exact⟨by rw[List.map_cons,List.map_cons,e2'],az.cons rv r2⟩
   ·rw[if_neg hg,if_neg hg]
    obtain⟨h1,h2⟩:=xX rv e2' r2
    exact⟨by rw[List.map_cons,List.map_cons,h1],az.cons r1 h2⟩
section
variable {X:Cx} {cl:Nat→Addr}
noncomputable def oW(c:Nat)(f:Str)(g:FX):FX:=fun δ S=>(g δ S).bind fun v S1=>match v with
 | .loc k=>(match jV S1 c k with | some fs=>(match fs.lookup f with | some v=> .ok v S1 | none=> .no) | none=> .no)
 | _=> .no
theorem jq{c:Nat}{e:Expr}{f:Str}{g:FX}{pos:Pos}(hC:sW X.K (cl c))(hn:cT X.K (cl c) f)(he:PX X cl e g)(hb:attributeBase e f X.env (eval e X.env)=eval e X.env:=by rfl):PX X cl (.Attribute e f pos) (oW c f g):=⟨(FE he.1 hb).imp fun σ H Q ⟨ρ,S,δ,v,S',E,hf,q⟩=>by
 obtain⟨o,S1,h1,h2⟩:=R3.aj hf
 split at h2
 ·rename_i k
  split at h2
  ·rename_i fs e1
   split at h2
   ·rename_i w e2'
    cases h2
    refine⟨ρ,S,δ, .loc k,_,E,h1,fun u ρ1 H1 p1 w1 r1=>?_⟩
    unfold aZ at r1
    obtain⟨a,a1,rfl⟩:=r1
    obtain⟨dx,ys,ey,ek,rs⟩:=w1.ob k a _ a1 (jx e1)
    obtain⟨x,hx,rx⟩:=xh ek rs e2'
    exact⟨a,cl c,dx,ys,x,rfl,ey,hC,hn,hx,q x ρ1 H1 p1 w1 rx⟩
   ·cases h2
  ·cases h2
 ·cases h2⟩
theorem w_fld{c k:Nat}{f:Str}{g:FX}{δ:DE}{S:aH}{Q:V3→aH→Prop}(h:W3 (g δ S) fun v S1=>∃fs w,v= .loc k∧S1[k]? =some (.ins c fs)∧fs.lookup f=some w∧Q w S1):W3 (oW c f g δ S) Q:=
 W3.bind (h.mono fun v S1 ⟨fs,w,e1,e2',e3,q⟩=>by
  subst e1
  have e4:jV S1 c k=some fs:=by unfold jV;simp only[e2',if_true]
  simp only[e4,e3]
  exact W3.ok q)
noncomputable def gE(P:Program)(w:World)(K:PySem.W.Frag)(mg:Str→Option Value)(base:Heap)(cl:Nat→Addr)(k c:Nat)(m:Str)(n:Nat)(g:List V3→aH→R3 V3):Prop:=
 ∃(f:Addr) (fd:FuncData) (ps:List Str),sW K (cl c)∧Meth K (cl c) m f∧gM P w K mg base qp k f fd ps (AF K cl (n+1) g)∧Binds K fd ps []
noncomputable def qU(c:Nat)(m:Str)(g:List V3→aH→R3 V3)(fo:FX)(fs:FA):FX:=fun δ S=>(fo δ S).bind fun o S1=>match o with
 | .loc k=>(match jV S1 c k with | some ys=>(match ys.lookup m with | none=>(fs δ S1).bind fun vs S2=>g (.loc k ::vs) S2 | some _=> .no) | none=> .no)
 | _=> .no
theorem oE{g:List V3→aH→R3 V3}{k j n c:Nat}{m:Str}{o e:Expr}{es:List Expr}{fo:FX}{fs:FA}{apos pos:Pos}{pl:Sem Bool}(M:gE X.prog X.w X.K X.mg X.base cl k c m n g)(hr:dZ j X.A)(hkj:k≤j)(ho:PX X cl o fo)(ha:zO X cl (e ::es) fs)(hn:∀δ S ds S',fs δ S= .ok ds S'→ds.length=n)
 (hst:starEach (e ::es) X.env=(false,eval e X.env) ::starEach es X.env:=by rfl) (hpl:(backTo pos (starEach es X.env)).any (·.1)=false:=by rfl)
 (ht:eval (.Call (.Attribute o m apos) (e ::es) [] pos) X.env=(do
   let ov ←eval o X.env
   standAt apos.atName
   let(f,first) ←holding [ov] (getMethod ov m pl)
   callWith pos f first (backTo pos (starEach (e ::es) X.env)) (backToKw pos (keywordEach [] X.env))):=by rfl) :
 PX X cl (.Call (.Attribute o m apos) (e ::es) [] pos) (qU c m g fo fs):=by
 obtain⟨f,fd,ps,hC,hm,F,hb⟩:=M
 refine⟨(B4 ho.1 hC hm F (hr.mono hkj) hb .nil uk ha.1 hst hpl ht).imp fun σ H Q ⟨ρ,S,δ,v,S',E,hf,q⟩=>?_⟩
 obtain⟨ov,S1,h1,h2⟩:=R3.aj hf
 split at h2
 ·rename_i kk
  split at h2
  ·rename_i ys e1
   split at h2
   ·rename_i e2'
    obtain⟨vs,S2,h3,h4⟩:=R3.aj h2
    refine⟨ρ,S,δ, .loc kk,S1,E,h1,fun u ρ1 H1 p1 w1 r1=>?_⟩
    have r1':=r1
    unfold aZ at r1
    obtain⟨a,a1,rfl⟩:=r1
    obtain⟨dx,zs,ey,ek,rs⟩:=w1.ob kk a _ a1 (jx e1)
    refine⟨a,dx,zs,rfl,ey,uj ek e2',ρ1,S1,δ,vs,S2,E.to p1 w1,h3,fun us ρ2 H2 p2 w2 r2=>?_⟩
    show AF X.K cl (n+1) g (V.ref a ::(us++[])) H2 Q E0
    rw[List.append_nil]
    exact⟨by rw[List.length_cons,←r2.length,hn δ S1 vs S2 h3],ρ2,S2, .loc kk ::vs,v,S',w2,az.cons (r1'.pre p2) r2,h4,fun z ρ3 H3 p3 w3 r3=>q z ρ3 H3 (p1.trans (p2.trans p3)) w3 r3⟩
   ·cases h2
  ·cases h2
 ·cases h2
noncomputable def pS(P:Program)(w:World)(K:PySem.W.Frag)(mg:Str→Option Value)(base:Heap)(cl:Nat→Addr)(k c:Nat)(x:Str)(n:Nat)(g:List V3→aH→R3 V3):Prop:=
 ∃(f:Addr) (fd:FuncData) (ps:List Str),Mk K (cl c) f∧gM P w K mg base qp k f fd ps (AF K cl (n+1) g)∧mg x=some (.ref (cl c))∧Binds K fd ps []
noncomputable def xD(c:Nat)(g:List V3→aH→R3 V3)(fs:FA):FX:=fun δ S=>(fs δ S).bind fun vs S1=>(g (.loc S1.length ::vs) (S1++[.ins c []])).bind fun v S2=>match v with
 | .d .cK=> .ok (.loc S1.length) S2
 | _=> .no
theorem wX{g:List V3→aH→R3 V3}{k j n c:Nat}{x:Str}{p pos:Pos}{e:Expr}{es:List Expr}{fs:FA}(M:pS X.prog X.w X.K X.mg X.base cl k c x n g)(hr:dZ j X.A)(hkj:k+1≤j)(hg:Gl X x)(ha:zO X cl (e ::es) fs)(hn:∀δ S ds S',fs δ S= .ok ds S'→ds.length=n)
 (hdb:(x==("__debug__":Str))=false:=by decide) (he:starEach (e ::es) X.env=(false,eval e X.env) ::starEach es X.env:=by rfl) (hpl:(backTo pos (starEach es X.env)).any (·.1)=false:=by rfl) :
 PX X cl (.Call (.Name x p) (e ::es) [] pos) (xD c g fs):=by
 obtain⟨f,fd,ps,M,F,hm,hb⟩:=M
 refine⟨(Cq M F (hr.mono hkj) hg hm hb .nil uk ha.1 hdb he hpl).imp fun σ H Q ⟨ρ,S,δ,v,S',E,hf,q⟩=>?_⟩
 obtain⟨vs,S1,h1,h2⟩:=R3.aj hf
 obtain⟨v0,S2,h3,h4⟩:=R3.aj h2
 split at h4
 ·cases h4
  refine⟨ρ,S,δ,vs,S1,E,h1,fun us ρ1 H1 p1 w1 r1 xa dx hx hdx hne=>?_⟩
  have hx1:upd H1 dx (.own xa) xa=none:=by rw[bc (fun z=>hne z.symm)];exact hx
  have sm:aS H1 (upd (upd H1 dx (.own xa)) xa (.ins (cl c) dx [])):=(aP hdx).trans (aP hx1)
  obtain⟨w2,p2⟩:=w1.new (a:=xa) (o:= .ins c []) sm hx ⟨dx,[],aQ,rfl,az.nil⟩
  show AF X.K cl (n+1) g (V.ref xa ::(us++[])) _ _ E0
  rw[List.append_nil]
  have rl:aZ X.K (ρ1.push xa) (upd (upd H1 dx (.own xa)) xa (.ins (cl c) dx [])) (.loc S1.length) (.ref xa):=by
   unfold aZ
   exact⟨xa,by show(ρ1.r++[xa])[_]? =_;rw [←w1.len,List.getElem?_append_right (Nat.le_refl _),Nat.sub_self];rfl,rfl⟩
  exact⟨by rw[List.length_cons,←r1.length,hn δ S vs S1 h1],_,_, .loc S1.length ::vs, .d .cK,_,w2,az.cons rl (r1.pre p2),h3,fun z ρ3 H3 p3 w3 r3=>⟨by unfold aZ Rep at r3;exact r3,q _ ρ3 H3 (p1.trans (p2.trans p3)) w3 (rl.pre p3)⟩⟩
 ·cases h4
noncomputable def rX(c:Nat)(f:Str)(fo fe:FX):FZ:=fun δ S=>(fe δ S).bind fun v S1=>(fo δ S1).bind fun o S2=>match o with
 | .loc k=>(match jV S2 c k with | some fs=>R3.bE (decide (fs.length < 1000)) (.ok (.nx δ) (S2.set k (.ins c (ui f v fs)))) | none=> .no)
 | _=> .no
theorem lQ{c:Nat}{o value:Expr}{f:Str}{fo fe:FX}{pos pos':Pos}(hC:sW X.K (cl c))(hn:cT X.K (cl c) f)(ho:PX X cl o fo)(he:PX X cl value fe)(hs:swapsWith value (some (.Attribute o f pos')) pos.line X.env=pure false:=by rfl) :
 PZ X cl (.Assign [.Attribute o f pos'] value pos) (rX c f fo fe):=⟨(D6 ho.1 he.1 hs).imp fun D σ H ⟨ρ,S,δ,ou,S',E,hf,q⟩=>by
 obtain⟨v,S1,h1,h2⟩:=R3.aj hf
 obtain⟨vo,S2,h3,h4⟩:=R3.aj h2
 split at h4
 ·rename_i k
  split at h4
  ·rename_i fs e1
   obtain⟨hl,h5⟩:=R3.bf h4
   cases h5
   refine⟨ρ,S,δ,v,S1,E,h1,fun u ρ1 H1 p1 w1 r1=>⟨ρ1,S1,δ, .loc k,S2,E.to p1 w1,h3,fun u2 ρ2 H2 p2 w2 r2=>?_⟩⟩
   unfold aZ at r2
   obtain⟨a,a1,rfl⟩:=r2
   obtain⟨dx,ys,ey,ek,rs⟩:=w2.ob k a _ a1 (jx e1)
   have hlen:ys.length=fs.length:=by have:=congrArg List.length ek;simpa using this
   obtain⟨k1,k2⟩:=xX (f:=f) (r1.pre p2) ek rs
   obtain⟨w3,p3⟩:=w2.put (o:= .ins c (ui f v fs)) (u:= .ins (cl c) dx (iX f u ys)) a1 (w2.fz k a a1 (by rw[jx e1];intro h;cases h)) ⟨dx,_,rfl,k1,k2⟩
   exact⟨a,cl c,dx,ys,rfl,ey,hC,hn,by rw[hlen];exact of_decide_eq_true hl,q σ ρ2 _ (p1.trans (p2.trans p3)) (E.to (p1.trans (p2.trans p3)) w3)⟩
  ·cases h4
 ·cases h4⟩
theorem hJ{c k:Nat}{f:Str}{fo fe:FX}{δ:DE}{S:aH}{QO:Ou→aH→Prop}(h:W3 (fe δ S) fun v S1=>W3 (fo δ S1) fun o S2=>∃fs,o= .loc k∧S2[k]? =some (.ins c fs)∧fs.length < 1000∧QO (.nx δ) (S2.set k (.ins c (ui f v fs)))):W3 (rX c f fo fe δ S) QO:=
 W3.bind (h.mono fun v S1 h=>W3.bind (h.mono fun o S2 ⟨fs,e1,e2',hl,q⟩=>by
  subst e1
  have e4:jV S2 c k=some fs:=by unfold jV;simp only[e2',if_true]
  simp only[e4]
  exact W3.wh (decide_eq_true hl) (W3.ok q)))
theorem sF{c k:Nat}{m:Str}{g:List V3→aH→R3 V3}{fo:FX}{fs:FA}{δ:DE}{S:aH}{Q:V3→aH→Prop}(h:W3 (fo δ S) fun o S1=>∃ys,o= .loc k∧S1[k]? =some (.ins c ys)∧ys.lookup m=none∧W3 (fs δ S1) fun vs S2=>W3 (g (.loc k ::vs) S2) Q):W3 (qU c m g fo fs δ S) Q:=
 W3.bind (h.mono fun o S1 ⟨ys,e1,e2',e3,h⟩=>by
  subst e1
  have e4:jV S1 c k=some ys:=by unfold jV;simp only[e2',if_true]
  simp only[e4,e3]
  exact W3.bind h)
theorem Bb{c:Nat}{g:List V3→aH→R3 V3}{fs:FA}{δ:DE}{S:aH}{Q:V3→aH→Prop}(h:W3 (fs δ S) fun vs S1=>W3 (g (.loc S1.length ::vs) (S1++[.ins c []])) fun v S2=>v= .d .cK∧Q (.loc S1.length) S2):W3 (xD c g fs δ S) Q:=
 W3.bind (h.mono fun vs S1 h=>W3.bind (h.mono fun v S2 ⟨e,q⟩=>by subst e;exact W3.ok q))
end
end L3
end
section
set_option maxRecDepth 100000
set_option maxHeartbeats 4000000
namespace PySem
open Sem (wp)
noncomputable def fK(t:Bool)(h:Heap)(i l:Addr)(k:Nat):Prop:=cond t (h.IsTupleIter i l k) (h.IsListIter i l k)
noncomputable def iH(t:Bool)(h:Heap)(l:Addr)(xs:Array Value):Prop:=cond t (h.IsTuple l xs) (h.IsList l xs)
noncomputable def o8(t:Bool):String:=cond t "tuple_iterator" "list_iterator"
theorem fK.at{t:Bool}{h h':Heap}{i l:Addr}{k:Nat}(x:fK t h i l k)(e:∀o,h.get? i=some o→h'.get? i=some o):fK t h' i l k:=by
 cases t with
 | true=>exact Heap.IsTupleIter.at x e
 | false=>exact Heap.IsListIter.at x e
theorem iH.at{t:Bool}{h h':Heap}{l:Addr}{xs:Array Value}(x:iH t h l xs)(e:∀o,h.get? l=some o→h'.get? l=some o):iH t h' l xs:=by
 cases t with
 | true=>exact Heap.IsTuple.at x e
 | false=>exact Heap.IsList.at x e
theorem fK.xb{t:Bool}{h h':Heap}{i l b:Addr}{k:Nat}(x:fK t h i l k)(hs:Heap.ExtBut b h h')(hab:i≠b):fK t h' i l k:=x.at fun o e=>hs i o hab e
theorem iH.xb{t:Bool}{h h':Heap}{l b:Addr}{xs:Array Value}(x:iH t h l xs)(hs:Heap.ExtBut b h h')(hab:l≠b):iH t h' l xs:=x.at fun o e=>hs l o hab e
theorem fK.ob{t:Bool}{h:Heap}{i l:Addr}{k:Nat}(x:fK t h i l k):∃o,h.get? i=some o∧∀v,o.data≠ .cell v:=by
 cases t with
 | true=>obtain⟨o,e,_,d⟩:=x;exact⟨o,e,fun v z=>by rw[d] at z;cases z⟩
 | false=>obtain⟨o,e,_,d⟩:=x;exact⟨o,e,fun v z=>by rw[d] at z;cases z⟩
theorem iH.lt{t:Bool}{h:Heap}{l:Addr}{xs:Array Value}(x:iH t h l xs):l < h.objs.size:=by
 cases t with
 | true=>obtain⟨o,e,_⟩:=x;exact Heap.lt_size e
 | false=>obtain⟨o,e,_⟩:=x;exact Heap.lt_size e
theorem fK.lt{t:Bool}{h:Heap}{i l:Addr}{k:Nat}(x:fK t h i l k):i < h.objs.size:=let⟨_,e,_⟩:=x.ob;Heap.lt_size e
section
variable {prog:Program} {w:World} {A:Around} {E:Value→Shared→Prop} {s:Shared}
theorem h_{t:Bool}{it l:Addr}{i:Nat}{items:Array Value}{x:Value}{Q:Value→Shared→Prop}(hit:fK t s.heap it l i)(hl:iH t s.heap l items)(hx:items[i]? =some x)
 (hQ:∀h',fK t h' it l (i+1)→Heap.SameBut it s.heap h'→Q x {s with heap:=h'}):wpAny (model prog w) A (Builtin.SmallTypes.nextOf (.ref it)) Q E s:=by
 cases t with
 | true=>exact jQ hit hl hx hQ
 | false=>exact wpAny_nextOf_list_item hit hl hx hQ
theorem k4{t:Bool}{it l:Addr}{i:Nat}{items:Array Value}{Q:Value→Shared→Prop}(hh:A.handled=none)(hit:fK t s.heap it l i)(hl:iH t s.heap l items)(hx:items[i]? =none)
 (hE:∀h' e,Heap.ExtBut it s.heap h'→(∃o,h'.get? e=some o∧o.cls= .type "StopIteration")→E (.ref e) {s with heap:=h'}):wpAny (model prog w) A (Builtin.SmallTypes.nextOf (.ref it)) Q E s:=by
 cases t with
 | true=>exact iu hh hit hl hx hE
 | false=>exact wpAny_nextOf_list_end hh hit hl hx hE
theorem rn{t:Bool}{l:Addr}{items:Array Value}{Q:Value→Shared→Prop}(hl:iH t s.heap l items)
 (hQ:Q (.ref s.heap.objs.size) {s with heap:=s.heap.push {cls:= .type (o8 t),data:= .fields #[.ref l, .int 0 0]}}):wpAny (model prog w) A (pyIter (.ref l)) Q E s:=by
 cases t with
 | true=>exact wpAny_pyIter_tuple hl hQ
 | false=>exact wpAny_pyIter_list hl hQ
theorem yD{t u:Bool}{z TI TO i1 i2 l1 l2:Addr}{k1 k2:Nat}{xs ys:Array Value}{x y a b:Value}{Q:Value→Shared→Prop}(D:ZipApart z TI TO i1 i2 l1 l2)(hz:IsZip s.heap z TI TO .none)(hTI:IsPair s.heap TI (.ref i1) (.ref i2))
 (hTO:IsPair s.heap TO a b) (h1:fK t s.heap i1 l1 k1) (h2:fK u s.heap i2 l2 k2) (hl1:iH t s.heap l1 xs) (hl2:iH u s.heap l2 ys) (hx:xs[k1]? =some x) (hy:ys[k2]? =some y)
 (hQ:∀h',IsZip h' z TI TO (rawInt s.heap.objs.size)→IsPair h' TO x y→fK t h' i1 l1 (k1+1)→fK u h' i2 l2 (k2+1)→IsPair h' s.heap.objs.size x y→h'.objs.size=s.heap.objs.size+1→(∀c o,c≠z→c≠TO→c≠i1→c≠i2→s.heap.get? c=some o→h'.get? c=some o)→Q (.ref s.heap.objs.size) {s with heap:=h'}) :
 wpAny (model prog w) A (Builtin.«zip.__next__» ⟨[.ref z],[]⟩) (fun fin s'=>∃v,fin= .done (.ret v)∧Q v s') E s:=by
 show wpAny _ _ (field (.ref z) 2 >>=_) _ _ _;refine wpAny_bind (wpAny_field hz rfl (x:= .bool false) rfl ?_);show wpAny _ _ (field (.ref z) 3 >>=_) _ _ _
 refine wpAny_bind (wpAny_field hz rfl (x:= .ref TI) rfl ?_);refine wpAny_bind (wpAny_seqItems hTI rfl ?_);show wpAny _ _ (Builtin.SmallTypes.ownedTupleIsFree (.ref z) >>=_) _ _ _
 refine wpAny_bind ?_;unfold Builtin.SmallTypes.ownedTupleIsFree;refine wpAny_bind (wpAny_field hz rfl (x:= .none) rfl (wpAny_pure ?_));simp only[if_true]
 refine wpAny_bind (wpAny_rule ?_);refine wpAny_bind (wpAny_field hz rfl (x:= .ref TO) rfl ?_);refine wpAny_bind (wpAny_setField_rec hz (by simp) fun h₁ hz₁ hs₁=>?_)
 replace hz₁:IsZip h₁ z TI TO .ellipsis:=hz₁;refine wpAny_bind ?_;simp only[List.zipIdx_cons,List.zipIdx_nil,List.forIn_cons,List.forIn_nil]
 refine wpAny_bind (wpAny_bind (wpAny_onRaise ?_));show wpAny _ _ (Builtin.SmallTypes.nextOf (.ref i1) >>=_) _ _ _
 refine wpAny_bind (h_ (h1.xb hs₁.extBut D.i1z) (hl1.xb hs₁.extBut D.l1z) hx fun h₂ h1₂ hs₂=>wpAny_pure ?_)
 have hTO₂:IsPair h₂ TO a b:=hs₂.extBut _ _ D.TOi1 (hs₁.extBut _ _ D.TOz hTO);refine wpAny_bind (wpAny_seqItems hTO₂ rfl ?_);refine wpAny_bind (wpAny_updateSeq_pair hTO₂ fun h₃ hTO₃ hs₃=>?_)
 replace hTO₃:IsPair h₃ TO x b:=hTO₃;refine wpAny_bind (wpAny_letGo (wpAny_pure ?_));refine wpAny_bind (wpAny_bind (wpAny_onRaise ?_));show wpAny _ _ (Builtin.SmallTypes.nextOf (.ref i2) >>=_) _ _ _
 refine wpAny_bind (h_ (((h2.xb hs₁.extBut D.i2z).xb hs₂.extBut D.i12.symm).xb hs₃.extBut D.TOi2.symm) (((hl2.xb hs₁.extBut D.l2z).xb hs₂.extBut D.l2i1).xb hs₃.extBut D.l2TO) hy fun h₄ h2₄ hs₄=>wpAny_pure ?_)
 have hTO₄:IsPair h₄ TO x b:=hs₄.extBut _ _ D.TOi2 hTO₃;refine wpAny_bind (wpAny_seqItems hTO₄ rfl ?_);refine wpAny_bind (wpAny_updateSeq_pair hTO₄ fun h₅ hTO₅ hs₅=>?_)
 replace hTO₅:IsPair h₅ TO x y:=hTO₅;refine wpAny_bind (wpAny_letGo (wpAny_pure (wpAny_pure ?_)));refine wpAny_bind (wpAny_seqItems hTO₅ rfl ?_);refine wpAny_bind (wpAny_newTuple ?_)
 have hsz:h₅.objs.size=s.heap.objs.size:=(hs₅.1.trans (hs₄.1.trans (hs₃.1.trans (hs₂.1.trans hs₁.1))))
 have hz₅:IsZip h₅ z TI TO .ellipsis:=hs₅.extBut _ _ D.TOz.symm <| hs₄.extBut _ _ D.i2z.symm <| hs₃.extBut _ _ D.TOz.symm <| hs₂.extBut _ _ D.i1z.symm hz₁
 have hk₅:∀c o,c≠z→c≠TO→c≠i1→c≠i2→s.heap.get? c=some o→h₅.get? c=some o:=fun c o c1 c2 c3 c4 e=>hs₅.extBut _ _ c2 <| hs₄.extBut _ _ c4 <| hs₃.extBut _ _ c2 <| hs₂.extBut _ _ c3 <| hs₁.extBut _ _ c1 e
 have h1₅:fK t h₅ i1 l1 (k1+1):=((h1₂.xb hs₃.extBut D.TOi1.symm).xb hs₄.extBut D.i12).xb hs₅.extBut D.TOi1.symm
 have h2₅:fK u h₅ i2 l2 (k2+1):=h2₄.xb hs₅.extBut D.TOi2.symm
 have hzlt:=Heap.lt_size hz₅
 show wpAny _ _ (Builtin.SmallTypes.ownedTupleHandOut (.ref z) (.ref h₅.objs.size) >>=_) _ _ _;refine wpAny_bind ?_;unfold Builtin.SmallTypes.ownedTupleHandOut
 have hz₆:IsZip (h₅.push {cls:= .type "tuple",data:= .seq #[x,y]}) z TI TO .ellipsis:=Heap.get?_push_of_some _ hz₅;refine wpAny_bind (wpAny_setField_rec hz₆ (by simp) fun h₇ hz₇ hs₇=>?_)
 replace hz₇:IsZip h₇ z TI TO (rawInt h₅.objs.size):=hz₇;refine wpAny_setField_rec hz₇ (by simp) fun h₈ hz₈ hs₈=>?_;replace hz₈:IsZip h₈ z TI TO (rawInt h₅.objs.size):=hz₈
 have up:∀c o,c≠z→h₅.get? c=some o→h₈.get? c=some o:=fun c o c1 e=>hs₈.extBut _ _ c1 <| hs₇.extBut _ _ c1 (Heap.get?_push_of_some _ e)
 have hT₈:IsPair h₈ h₅.objs.size x y:=hs₈.extBut _ _ (Nat.ne_of_gt hzlt) <| hs₇.extBut _ _ (Nat.ne_of_gt hzlt) (Heap.get?_push_size _ rfl)
 have hz8:h₈.objs.size=h₅.objs.size+1:=(hs₈.1.trans hs₇.1).trans (Heap.size_push ..)
 rw[hsz] at hz₈ hT₈ hz8;refine wpAny_pure ⟨_,rfl,?_⟩;show Q (.ref h₅.objs.size) _;rw [hsz]
 exact hQ h₈ hz₈ (up _ _ D.TOz hTO₅) (h1₅.at fun o e=>up _ o D.i1z e) (h2₅.at fun o e=>up _ o D.i2z e) hT₈ hz8 fun c o c1 c2 c3 c4 e=>up c o c1 (hk₅ c o c1 c2 c3 c4 e)
theorem By{t u:Bool}{z TI TO i1 i2 l1 l2:Addr}{k1 k2:Nat}{xs ys:Array Value}{a b:Value}{Q:Fin→Shared→Prop}(hh:A.handled=none)(D:ZipApart z TI TO i1 i2 l1 l2)(hz:IsZip s.heap z TI TO .none)
 (hTI:IsPair s.heap TI (.ref i1) (.ref i2)) (hTO:IsPair s.heap TO a b) (h1:fK t s.heap i1 l1 k1) (h2:fK u s.heap i2 l2 k2) (hl1:iH t s.heap l1 xs) (hl2:iH u s.heap l2 ys) (hend:xs[k1]? =none∨ys[k2]? =none)
 (hE:∀h' e,(∀c o,c≠z→c≠TO→c≠i1→c≠i2→s.heap.get? c=some o→h'.get? c=some o)→(∃o,h'.get? e=some o∧o.cls= .type "StopIteration")→E (.ref e) {s with heap:=h'}):wpAny (model prog w) A (Builtin.«zip.__next__» ⟨[.ref z],[]⟩) Q E s:=by
 show wpAny _ _ (field (.ref z) 2 >>=_) _ _ _;refine wpAny_bind (wpAny_field hz rfl (x:= .bool false) rfl ?_);show wpAny _ _ (field (.ref z) 3 >>=_) _ _ _
 refine wpAny_bind (wpAny_field hz rfl (x:= .ref TI) rfl ?_);refine wpAny_bind (wpAny_seqItems hTI rfl ?_);show wpAny _ _ (Builtin.SmallTypes.ownedTupleIsFree (.ref z) >>=_) _ _ _
 refine wpAny_bind ?_;unfold Builtin.SmallTypes.ownedTupleIsFree;refine wpAny_bind (wpAny_field hz rfl (x:= .none) rfl (wpAny_pure ?_));simp only[if_true]
 refine wpAny_bind (wpAny_rule ?_);refine wpAny_bind (wpAny_field hz rfl (x:= .ref TO) rfl ?_);refine wpAny_bind (wpAny_setField_rec hz (by simp) fun h₁ hz₁ hs₁=>?_)
 replace hz₁:IsZip h₁ z TI TO .ellipsis:=hz₁;refine wpAny_bind ?_;simp only[List.zipIdx_cons,List.zipIdx_nil,List.forIn_cons,List.forIn_nil]
 refine wpAny_bind (wpAny_bind (wpAny_onRaise ?_));show wpAny _ _ (Builtin.SmallTypes.nextOf (.ref i1) >>=_) _ _ _
 cases hx:xs[k1]? with
 | none=>
   refine wpAny_bind (k4 hh (h1.xb hs₁.extBut D.i1z) (hl1.xb hs₁.extBut D.l1z) hx fun h₂ e hs₂ he=>?_)
   obtain⟨oe,hoe,hce⟩:=he;have hz₂:IsZip h₂ z TI TO .ellipsis:=hs₂ _ _ D.i1z.symm hz₁
   have hez:e≠z:=fun x=>by {subst x;rw [hz₂] at hoe;cases hoe;simp at hce}
   exact wpAny_setField_rec hz₂ (by simp) fun h₃ _ hs₃=>hE h₃ e (fun c o c1 _ c3 _ x=>hs₃.extBut _ _ c1 <| hs₂ _ _ c3 <| hs₁.extBut _ _ c1 x) ⟨oe,hs₃.extBut _ _ hez hoe,hce⟩
 | some x=>
   have hy:ys[k2]? =none:=hend.resolve_left fun h=>by {rw [hx] at h;cases h}
   refine wpAny_bind (h_ (h1.xb hs₁.extBut D.i1z) (hl1.xb hs₁.extBut D.l1z) hx fun h₂ h1₂ hs₂=>wpAny_pure ?_)
   have hTO₂:IsPair h₂ TO a b:=hs₂.extBut _ _ D.TOi1 (hs₁.extBut _ _ D.TOz hTO);refine wpAny_bind (wpAny_seqItems hTO₂ rfl ?_);refine wpAny_bind (wpAny_updateSeq_pair hTO₂ fun h₃ hTO₃ hs₃=>?_)
   refine wpAny_bind (wpAny_letGo (wpAny_pure ?_));refine wpAny_bind (wpAny_bind (wpAny_onRaise ?_));show wpAny _ _ (Builtin.SmallTypes.nextOf (.ref i2) >>=_) _ _ _
   refine wpAny_bind (k4 hh (((h2.xb hs₁.extBut D.i2z).xb hs₂.extBut D.i12.symm).xb hs₃.extBut D.TOi2.symm) (((hl2.xb hs₁.extBut D.l2z).xb hs₂.extBut D.l2i1).xb hs₃.extBut D.l2TO) hy fun h₄ e hs₄ he=>?_)
   obtain⟨oe,hoe,hce⟩:=he;have hz₄:IsZip h₄ z TI TO .ellipsis:=hs₄ _ _ D.i2z.symm <| hs₃.extBut _ _ D.TOz.symm <| hs₂.extBut _ _ D.i1z.symm hz₁
   have hez:e≠z:=fun x=>by {subst x;rw [hz₄] at hoe;cases hoe;simp at hce}
   exact wpAny_setField_rec hz₄ (by simp) fun h₅ _ hs₅=>hE h₅ e (fun c o c1 c2 c3 c4 x=>hs₅.extBut _ _ c1 <| hs₄ _ _ c4 <| hs₃.extBut _ _ c2 <| hs₂.extBut _ _ c3 <| hs₁.extBut _ _ c1 x) ⟨oe,hs₅.extBut _ _ hez hoe,hce⟩
end
noncomputable abbrev HY(t:Bool)(h:Heap)(l1:Addr):Heap:=h.push {cls:= .type (o8 t),data:= .fields #[.ref l1, .int 0 0]}
noncomputable abbrev Ia(t u:Bool)(h:Heap)(l1 l2:Addr):Heap:=(HY t h l1).push {cls:= .type (o8 u),data:= .fields #[.ref l2, .int 0 0]}
noncomputable abbrev H0(t u:Bool)(h:Heap)(l1 l2:Addr):Heap:=(Ia t u h l1 l2).push {cls:= .type "tuple",data:= .seq #[.ref h.objs.size, .ref (HY t h l1).objs.size]}
noncomputable abbrev HR(t u:Bool)(h:Heap)(l1 l2:Addr):Heap:=(H0 t u h l1 l2).push {cls:= .type "tuple",data:= .seq #[.none, .none]}
noncomputable abbrev Gq(t u:Bool)(h:Heap)(l1 l2:Addr):Heap:=(HR t u h l1 l2).push {cls:= .type "zip",data:= .fields #[.none, .bool false, .bool false, .ref (Ia t u h l1 l2).objs.size, .ref (H0 t u h l1 l2).objs.size]}
theorem wC(t u:Bool)(l1 l2:Addr)(xs ys:Array Value):Meets (Builtin.«zip.__new__» ⟨[.type "zip", .ref l1, .ref l2],[]⟩) (fun _ R s=>iH t s.heap l1 xs∧iH u s.heap l2 ys∧R (.ok (.ret (.ref (HR t u s.heap l1 l2).objs.size))) {s with heap:=Gq t u s.heap l1 l2}):=
 .of_wp fun prog w A R s h=>by
  obtain⟨hp,g,d,tk,os⟩:=s
  obtain⟨hl1,hl2,h⟩:=h;have hsub:=sub_zip
  have hL1:iH t (Shared.heap ⟨hp,g,d,tk,os⟩) l1 xs:=hl1
  have hL2:iH u (Shared.heap ⟨hp.push {cls:= .type (o8 t),data:= .fields #[.ref l1, .int 0 0]},g,d,tk,os⟩) l2 ys:=hl2.at fun o e=>Heap.get?_push_of_some _ e
  wp_walk using rn hL1,rn hL2
  exact⟨_,rfl,h⟩
theorem fK.new{t:Bool}{h:Heap}{i l:Addr}(e:h.get? i=some {cls:= .type (o8 t),data:= .fields #[.ref l, .int 0 0]}):fK t h i l 0:=by
 cases t with
 | true=>exact⟨_,e,rfl,rfl⟩
 | false=>exact⟨_,e,rfl,rfl⟩
theorem yO{prog:Program}{w:World}{A:Around}{E:Value→Shared→Prop}{s:Shared}{t u:Bool}{l1 l2:Addr}{xs ys:Array Value}{Q:Value→Shared→Prop}(hl1:iH t s.heap l1 xs)(hl2:iH u s.heap l2 ys)
 (h:∀h',IsZip h' (s.heap.objs.size+4) (s.heap.objs.size+2) (s.heap.objs.size+3) .none→IsPair h' (s.heap.objs.size+2) (.ref s.heap.objs.size) (.ref (s.heap.objs.size+1))→IsPair h' (s.heap.objs.size+3) .none .none→
   fK t h' s.heap.objs.size l1 0→fK u h' (s.heap.objs.size+1) l2 0→(∀c o,s.heap.get? c=some o→h'.get? c=some o)→Q (.ref (s.heap.objs.size+4)) {s with heap:=h'}):wpAny (model prog w) A (call (.type "zip") [.ref l1, .ref l2]) Q E s:=by
 refine callType_new F.called_zip (by decide) (F.typeCall_zip_2 _ _) (F.newCall_zip_2 _ _) (fun obj=>F.args_object_init_3 obj _ _) F.entry_zip_new (wC t u l1 l2 xs ys) ⟨hl1,hl2,?_⟩
 have z1:(HY t s.heap l1).objs.size=s.heap.objs.size+1:=Heap.size_push ..
 have z2:(Ia t u s.heap l1 l2).objs.size=s.heap.objs.size+2:=(Heap.size_push ..).trans (congrArg (·+1) z1)
 have z3:(H0 t u s.heap l1 l2).objs.size=s.heap.objs.size+3:=(Heap.size_push ..).trans (congrArg (·+1) z2)
 have z4:(HR t u s.heap l1 l2).objs.size=s.heap.objs.size+4:=(Heap.size_push ..).trans (congrArg (·+1) z3)
 have g5:(Gq t u s.heap l1 l2).get? (HR t u s.heap l1 l2).objs.size=some _:=Heap.get?_push_size _ rfl
 have g4:(Gq t u s.heap l1 l2).get? (H0 t u s.heap l1 l2).objs.size=some _:=Heap.get?_push_of_some _ (Heap.get?_push_size _ rfl)
 have g3:(Gq t u s.heap l1 l2).get? (Ia t u s.heap l1 l2).objs.size=some _:=Heap.get?_push_of_some _ <| Heap.get?_push_of_some _ (Heap.get?_push_size _ rfl)
 have g2:(Gq t u s.heap l1 l2).get? (HY t s.heap l1).objs.size=some _:=Heap.get?_push_of_some _ <| Heap.get?_push_of_some _ <| Heap.get?_push_of_some _ (Heap.get?_push_size _ rfl)
 have g1:(Gq t u s.heap l1 l2).get? s.heap.objs.size=some _:=Heap.get?_push_of_some _ <| Heap.get?_push_of_some _ <| Heap.get?_push_of_some _ <| Heap.get?_push_of_some _ (Heap.get?_push_size _ rfl)
 show _∧_
 rw[z2,z3,z4] at g5;rw [z1,z2] at g3;rw [z3] at g4;rw [z1] at g2;rw [z4]
 exact⟨⟨_,g5,rfl⟩,h _ g5 g3 g4 (fK.new g1) (fK.new g2) fun c o x=>Heap.get?_push_of_some _ <| Heap.get?_push_of_some _ <| Heap.get?_push_of_some _ <| Heap.get?_push_of_some _ <| Heap.get?_push_of_some _ x⟩
end PySem
namespace L2
open PySem PySem.Spec PyProof.Rows
noncomputable def BN(t:Bool)(K:PySem.W.Frag)(H:Hp)(a:Addr)(xs:List V):Prop:=cond t (nV K H a xs) (kZ K H a xs)
theorem Inv.CA{X:Cx}{pins:List (Addr × Obj)}{σ:L2.St}{H:Hp}{s:Shared}{t:Bool}{a:Addr}{xs:List V}(I:Inv X pins σ H s)(h:BN t X.K H a xs):∃its:List Value,Vals xs its∧iH t s.heap a its.toArray:=by
 cases t with
 | true=>obtain⟨its,r,p,_⟩:=I.tuple h;exact⟨its,r,p⟩
 | false=>obtain⟨its,r,p,_⟩:=I.list h;exact⟨its,r,p.isList⟩
theorem Inv.xc{X:Cx}{pins:List (Addr × Obj)}{σ:L2.St}{H:Hp}{s:Shared}{t:Bool}{a:Addr}{xs ys:List V}(I:Inv X pins σ H s)(h:BN t X.K H a xs)(h':BN t X.K H a ys):xs=ys:=by
 cases t with
 | true=>exact I.m6 h h'
 | false=>exact I.l0 h h'
noncomputable def KS(K:PySem.W.Frag)(t u:Bool)(a b:Addr):It:=
 ⟨fun i H=>∃xs ys x y,BN t K H a xs∧BN u K H b ys∧xs[i]? =some x∧ys[i]? =some y,
  fun i H v H'=>∃p x y,H p=none∧v= .ref p∧(∀xs,BN t K H a xs→xs[i]? =some x)∧(∀ys,BN u K H b ys→ys[i]? =some y)∧H'=upd H p (.tup [x,y]),
  fun i H=>∃xs ys,BN t K H a xs∧BN u K H b ys∧(xs.length≤i∨ys.length≤i)⟩
theorem zB{P:Program}{w:World}{K:PySem.W.Frag}{elts:List Expr}{k:Nat}{pos:Pos}{t u:Bool}{z TI TO i1 i2 a b:Addr}(D:ZipApart z TI TO i1 i2 a b):Turn P w K (.Tuple elts k pos) (KS K t u a b) [z,TI,TO,i1,i2] z
 (fun i h=>IsZip h z TI TO .none∧IsPair h TI (.ref i1) (.ref i2)∧(∃x y,IsPair h TO x y)∧fK t h i1 a i∧fK u h i2 b i) where
 mem:=by simp
 obj:=fun i h st c hc=>by
  obtain⟨hz,hTI,⟨x,y,hTO⟩,h1,h2⟩:=st
  simp only[List.mem_cons,List.not_mem_nil,or_false] at hc
  rcases hc with rfl | rfl | rfl | rfl | rfl
  ·exact⟨_,hz,fun v z=>by cases z⟩
  ·exact⟨_,hTI,fun v z=>by cases z⟩
  ·exact⟨_,hTO,fun v z=>by cases z⟩
  ·exact h1.ob
  ·exact h2.ob
 keep:=fun i h h' st k=>by
  obtain⟨hz,hTI,⟨x,y,hTO⟩,h1,h2⟩:=st
  exact⟨k z (by simp) _ hz,k TI (by simp) _ hTI,⟨x,y,k TO (by simp) _ hTO⟩,h1.at fun o e=>k i1 (by simp) o e,h2.at fun o e=>k i2 (by simp) o e⟩
 item:=by
  intro X hP hw hK hc i pins s σ H E I hf st hg
  subst hP hw hK
  obtain⟨xs,ys,x,y,hq,hr,hx,hy⟩:=hg
  obtain⟨its,rv,p⟩:=I.CA hq
  obtain⟨jts,rw',p'⟩:=I.CA hr
  obtain⟨ux,hu,ru⟩:=rv.get hx
  obtain⟨uy,hu',ru'⟩:=rw'.get hy
  obtain⟨hz,hTI,⟨a0,b0,hTO⟩,h1,h2⟩:=st
  have hT:s.TypeIs (.ref z) "zip":=⟨_,hz,rfl⟩
  unfold pyNext
  refine wpAny_bind (wpAny_attempt (wpAny_callSpecial?_slot (name:=Str.ofString "__next__") hT F.slot_zip_next (wpAny_call_entry F.slot_zip_next hT F.entry_zip_next (yD D hz hTI hTO h1 h2 p p' (x:=ux) (y:=uy) (by simpa using hu) (by simpa using hu') fun h₁ a1 a2 a3 a4 a5 a6 hk₁=>wpAny_pure ?_) (F.args_zip_next_1 _))))
  refine⟨_,rfl,wpAny_letOwnedTupleGo_zip a1 fun h₂ hz₂ hs₂=>?_⟩
  replace hs₂:Heap.SameBut z h₁ h₂:=hs₂
  have hzl:z < s.heap.objs.size:=Heap.lt_size hz
  have ht₂:h₂.get? s.heap.objs.size=some {cls:= .type "tuple",data:= .seq #[ux,uy]}:=(hs₂.2 _ (Nat.ne_of_gt hzl)).trans a5
  have kk:∀b o,b≠z→b≠TO→b≠i1→b≠i2→s.heap.get? b=some o→h₂.get? b=some o:=fun b o c1 c2 c3 c4 q=>(hs₂.2 b c1).trans (hk₁ b o c1 c2 c3 c4 q)
  have hn:H s.heap.objs.size=none:=I.fresh
  have sm:aS H (upd H s.heap.objs.size (.tup [x,y])):=aP hn
  have f0:∀c∈[z,TI,TO,i1,i2],H c=none:=fun c hc=>(hf c hc).1
  have nit:∀b o,H b=some o→b≠z∧b≠TO∧b≠i1∧b≠i2:=fun b o q=>by
   refine⟨fun e=>?_,fun e=>?_,fun e=>?_,fun e=>?_⟩
   ·rw[e,f0 z (by simp)] at q;cases q
   ·rw[e,f0 TO (by simp)] at q;cases q
   ·rw[e,f0 i1 (by simp)] at q;cases q
   ·rw[e,f0 i2 (by simp)] at q;cases q
  have kH:∀b o q,H b=some q→s.heap.get? b=some o→h₂.get? b=some o:=fun b o q hb e=>let⟨c1,c2,c3,c4⟩:=nit b q hb;kk b o c1 c2 c3 c4 e
  have hok:k3 X.prog X.w (upd H s.heap.objs.size (.tup [x,y])) h₂:=fun b ob q=>by
   by_cases hb:b=s.heap.objs.size
   ·subst hb
    rw[aQ] at q
    cases q
    exact⟨by show 2≤sizeLine;decide,[ux,uy], .cons ru (.cons ru' .nil),⟨_,ht₂,rfl,_,rfl⟩⟩
   ·rw[bc hb] at q
    refine(I.hok b ob q).sH (fun c v hc e=>?_) (fun c e=>sm c _ e) fun c ys e=>sm c _ e
    rcases hc with rfl | hc
    ·exact kH c v _ q e
    ·exact kH c v _ hc e
  have nch:∀b,b ∉ [z,TI,TO,i1,i2]→b≠z∧b≠TO∧b≠i1∧b≠i2:=fun b hb=>⟨fun e=>hb (by simp [e]),fun e=>hb (by simp [e]),fun e=>hb (by simp [e]),fun e=>hb (by simp [e])⟩
  have kc:∀b o,b ∉ [z,TI,TO,i1,i2]→s.heap.get? b=some o→h₂.get? b=some o:=fun b o hb e=>let⟨c1,c2,c3,c4⟩:=nch b hb;kk b o c1 c2 c3 c4 e
  have I2:Inv X pins σ (upd H s.heap.objs.size (.tup [x,y])) {s with heap:=h₂,toks:=s.toks}:=by
   refine I.step (g':=s.gens) (d':=s.drawn) (ch:=[z,TI,TO,i1,i2]) (fun b hb=>?_) (fun b o _ _ hb q _=>kc b o hb q) (fun b o _ _ hb q _=>⟨o.slots,kc b o hb q⟩)
    (fun b o hb q n=>by rw[bc (Nat.ne_of_lt (Heap.lt_size q))];exact n) (fun b o hb q=>⟨o,kc b o hb q⟩) (fun b ys e=>sm b _ e) (fun b o u e=>sm b _ e) (fun b ps e=>⟨#[],by rw[sm b _ e];simp⟩) (fun m hm=>?_) hok I.bare
   ·obtain⟨g0,g1,g2,g3,g4,g5⟩:=hf b hb
    exact⟨g3,g1,g4,g5⟩
   ·obtain⟨o,es,ep,ho,r⟩:=hm
    refine⟨o,es,ep,kc _ o (fun hb=>?_) ho,r⟩
    exact(hf _ hb).2.1 rfl
  have up:∀c,c≠z→∀o,h₁.get? c=some o→h₂.get? c=some o:=fun c hc o e=>(hs₂.2 c hc).trans e
  refine⟨.ref s.heap.objs.size,_,I2,rfl,⟨s.heap.objs.size,x,y,hn,rfl,fun zs hy'=>(by rw[I.xc hy' hq];exact hx),fun zs hy'=>(by rw[I.xc hy' hr];exact hy),rfl⟩,
   ⟨hz₂,up _ D.TIz _ (hk₁ TI _ D.TIz D.TITO D.TIi1 D.TIi2 hTI),⟨_,_,up _ D.TOz _ a2⟩,a3.at fun o e=>up _ D.i1z o e,a4.at fun o e=>up _ D.i2z o e⟩,fun c hc=>?_⟩
  have hlt:c < s.heap.objs.size:=by
   simp only[List.mem_cons,List.not_mem_nil,or_false] at hc
   rcases hc with rfl | rfl | rfl | rfl | rfl
   ·exact hzl
   ·exact Heap.lt_size hTI
   ·exact Heap.lt_size hTO
   ·exact h1.lt
   ·exact h2.lt
  rw[bc (Nat.ne_of_lt hlt)]
  exact f0 c hc
 done:=by
  intro X hP hw hK hc i pins s σ H E I hf st hg
  subst hP hw hK
  obtain⟨xs,ys,hq,hr,hl⟩:=hg
  obtain⟨its,rv,p⟩:=I.CA hq
  obtain⟨jts,rw',p'⟩:=I.CA hr
  obtain⟨hz,hTI,⟨a0,b0,hTO⟩,h1,h2⟩:=st
  have hT:s.TypeIs (.ref z) "zip":=⟨_,hz,rfl⟩
  have l1:=rv.length
  have l2:=rw'.length
  unfold pyNext
  refine wpAny_bind (wpAny_attempt (wpAny_callSpecial?_slot (name:=Str.ofString "__next__") hT F.slot_zip_next (wpAny_call_entry F.slot_zip_next hT F.entry_zip_next (By (I.ok.hd hc) D hz hTI hTO h1 h2 p p' ?_ fun h' e hk he=>?_) (F.args_zip_next_1 _))))
  ·rcases hl with hl | hl
   ·exact .inl (by simp;omega)
   ·exact .inr (by simp;omega)
  obtain⟨o,ho,hcl⟩:=he
  refine wpAny_bind (wpAny_isInstance (T:="StopIteration") (b:=true) ⟨o,ho,hcl⟩ isSubtype_stop ?_)
  have nch:∀b,b ∉ [z,TI,TO,i1,i2]→b≠z∧b≠TO∧b≠i1∧b≠i2:=fun b hb=>⟨fun e=>hb (by simp [e]),fun e=>hb (by simp [e]),fun e=>hb (by simp [e]),fun e=>hb (by simp [e])⟩
  have kc:∀b o,b ∉ [z,TI,TO,i1,i2]→s.heap.get? b=some o→h'.get? b=some o:=fun b o hb e=>let⟨c1,c2,c3,c4⟩:=nch b hb;hk b o c1 c2 c3 c4 e
  have f0:∀c∈[z,TI,TO,i1,i2],H c=none:=fun c hc=>(hf c hc).1
  have kH:∀b o q,H b=some q→s.heap.get? b=some o→h'.get? b=some o:=fun b o q hb e=>kc b o (fun z=>by rw[f0 b z] at hb;cases hb) e
  refine wpAny_pure ⟨rfl,?_⟩
  refine I.step (h':=h') (H':=H) (g':=s.gens) (d':=s.drawn) (t':=s.toks) (ch:=[z,TI,TO,i1,i2]) (fun b hb=>?_) (fun b o _ _ hb q _=>kc b o hb q) (fun b o _ _ hb q _=>⟨o.slots,kc b o hb q⟩)
   (fun b o hb q n=>n) (fun b o hb q=>⟨o,kc b o hb q⟩) (fun b ys e=>e) (fun b o u e=>e) (fun b ps e=>⟨#[],by rw[e];simp⟩) (fun m hm=>?_) (fun b ob q=>?_) I.bare
  ·obtain⟨g0,g1,g2,g3,g4,g5⟩:=hf b hb
   exact⟨g3,g1,g4,g5⟩
  ·obtain⟨o,es,ep,ho,r⟩:=hm
   refine⟨o,es,ep,kc _ o (fun hb=>?_) ho,r⟩
   exact(hf _ hb).2.1 rfl
  ·refine(I.hok b ob q).sH (fun c v hc e=>?_) (fun c e=>e) fun c ys e=>e
   rcases hc with rfl | hc
   ·exact kH c v _ q e
   ·exact kH c v _ hc e
 self:=fun A i s Q E st h=>wpAny_pyIter_zip st.1 h
section
variable {X:Cx}
noncomputable def qm(ds es:List D):List D:=(ds.zip es).map fun p=> .tup [p.1,p.2]
noncomputable def seqD?:D→Option (List D)
 | .lst ds=>some ds
 | .tup ds=>some ds
 | _=>none
noncomputable def JX(f g:FD):aw→R (List D):=fun δ=>(f δ).bind fun d=>(g δ).bind fun e=>match seqD? d,seqD? e with | some ds,some es=> .ok (qm ds es) | _,_=> .no
theorem Rep.CA{K:PySem.W.Frag}{B:List Addr}{H:Hp}{d:D}{v:V}{ds:List D}(r:Rep K B H d v)(h:seqD? d=some ds):∃t a xs,v= .ref a∧(∀B' H',dq B H B' H'→BN t K H' a xs∧aC K B' H' ds xs):=by
 cases d with
 | lst es=>
   cases h
   obtain⟨a,xs,rfl,l,rs⟩:=Rep.lst.mp r
   exact⟨false,a,xs,rfl,fun B' H' p=>⟨(l.bo p).sq,rs.bo p⟩⟩
 | tup es=>
   cases h
   obtain⟨a,xs,rfl,l,rs⟩:=Rep.tup.mp r
   refine⟨true,a,xs,rfl,fun B' H' p=>⟨?_,rs.bo p⟩⟩
   have l':qZ K B' H' a xs:=l.elim (fun z=> .inl ⟨(p.rd z.2 z.1).2,(p.rd z.2 z.1).1⟩) .inr
   exact l'.sq
 | _=>cases h
noncomputable def J7(T U:String)(f:FD):FD:=fun δ=>(f δ).bind fun d=>match d with | .dct _ _=> .no | _=> .ok (.bl (qf (tyName d) T || qf (tyName d) U))
noncomputable def Lf(lo:Int)(n:Nat):It:=⟨fun i _=>i < n,fun i H x H'=>H'=H∧x= .int (lo - i),fun i _=>n≤i⟩
noncomputable def Iz(lo:Int)(n:Nat):List D:=(List.range n).map fun(i:Nat)=>D.int (lo - i)
noncomputable def J6(f g h:FD):aw→R (List D):=fun δ=>(f δ).bind fun d=>(g δ).bind fun e=>(h δ).bind fun k=>match d,e,k with
 | .int i, .int j, .int m=>R.bE (decide (m= -1∧ -(2 ^ 60)≤i∧i < 2 ^ 60∧ -(2 ^ 60)≤j∧j < 2 ^ 60)) (.ok (Iz i (i - j).toNat)) | _,_,_=> .no
noncomputable def bls?:List D→Option (List Bool)
 | []=>some []
 | .bl b ::ds=>(bls? ds).map (b ::·)
 | _ ::_=>none
theorem p9{K:PySem.W.Frag}{B:List Addr}{H:Hp}:∀{ds:List D} {xs:List V} {bs:List Bool},aC K B H ds xs→bls? ds=some bs→xs=bs.map V.bl
 | [],xs,bs,r,h=>by unfold aC at r;subst r;cases h;rfl
 | d ::ds,xs,bs,r,h=>by
   obtain⟨x,q,rfl,r1,r2⟩:=r.bJ
   cases d with
   | bl b=>
     have h:(bls? ds).map (b ::·)=some bs:=h
     cases e:bls? ds with
     | none=>rw [e] at h;cases h
     | some cs=>
       rw[e] at h
       cases h
       rw[Rep.bl.mp r1,p9 r2 e]
       rfl
   | _=>cases h
theorem rM:∀bs:List Bool,bls? (bs.map D.bl)=some bs
 | []=>rfl
 | b ::bs=>by show(bls? (bs.map D.bl)).map (b ::·)=_;rw [rM bs];rfl
theorem lj:∀{bs:List Bool} {us:List Value},Vals (bs.map V.bl) us→us=bs.map Value.bool
 | [],us,h=>by cases h;rfl
 | b ::bs,us,h=>by
   cases h with
   | cons r t=>rw [lj t,show _=Value.bool b from r];rfl
theorem range_all(bs:List Bool):(List.range bs.length).all (fun i=>bs.getD i false)=bs.all id:=by
 rw[Bool.eq_iff_iff]
 simp only[List.all_eq_true,List.mem_range,id]
 constructor
 ·intro h b hb
  obtain⟨i,hi,rfl⟩:=List.getElem_of_mem hb
  have:=h i hi
  rw[List.getD_eq_getElem?_getD,List.getElem?_eq_getElem hi] at this
  exact this
 ·intro h i hi
  rw[List.getD_eq_getElem?_getD,List.getElem?_eq_getElem hi]
  exact h _ (List.getElem_mem hi)
theorem range_any(bs:List Bool):(List.range bs.length).any (fun i=>bs.getD i false)=bs.any id:=by
 rw[Bool.eq_iff_iff]
 simp only[List.any_eq_true,List.mem_range,id]
 constructor
 ·rintro⟨i,hi,h⟩
  rw[List.getD_eq_getElem?_getD,List.getElem?_eq_getElem hi] at h
  exact⟨_,List.getElem_mem hi,h⟩
 ·rintro⟨b,hb,h⟩
  obtain⟨i,hi,rfl⟩:=List.getElem_of_mem hb
  exact⟨i,hi,by rw[List.getD_eq_getElem?_getD,List.getElem?_eq_getElem hi];exact h⟩
noncomputable def El:List D→R D
 | [.lst ds]=>(match bls? ds with | some bs=> .ok (.bl (bs.all id)) | none=> .no)
 | _=> .no
noncomputable def Cs:List D→R D
 | [.lst ds]=>(match bls? ds with | some bs=> .ok (.bl (bs.any id)) | none=> .no)
 | _=> .no
theorem DF{bs:List Bool}{i:Nat}{v:Value}(h:((bs.map Value.bool).toArray)[i]? =some v):v= .bool (bs.getD i false):=by
 rw[List.getElem?_toArray,List.getElem?_map] at h
 rw[List.getD_eq_getElem?_getD]
 cases e:bs[i]? with
 | none=>rw [e] at h;cases h
 | some b=>rw [e] at h;cases h;rfl
theorem GF(hc:X.calm=true):ft X (.builtin "all") El:=by
 intro pins s σ H B ds d xs us I hb rx rs hg
 unfold El at hg
 split at hg
 ·split at hg
  ·rename_i es bs e
   cases hg
   obtain⟨x,rfl,r⟩:=rs.one
   obtain⟨a,ys,rfl,l,r⟩:=Rep.lst.mp r
   obtain⟨u,rfl,ru⟩:=vals1 rx
   cases ru
   obtain⟨its,n,rv,e1,hz⟩:=I.D0 l
   rw[p9 r e] at rv
   obtain rfl:=lj rv
   have hl:s.heap.IsList a (bs.map Value.bool).toArray:=⟨_,e1,rfl,n,rfl⟩
   have hlt:a < s.heap.objs.size:=Heap.lt_size e1
   refine call_all_walk (wpAny_pyIter_list hl ?_)
   refine⟨_,_,_,_,_,_,fun i=>bs.getD i false,rfl,Walks.list (A:=X.A.in1) (I.ok.hd hc) _ a (Nat.ne_of_lt hlt) _,⟨⟨_,Heap.get?_push_size _ rfl,rfl,rfl⟩,hl.push _⟩,?_,fun h' tk hk=>?_⟩
   ·intro i v s Q E hP hQ
    rw[DF hP]
    exact wpAny_truthy_bool hQ
   ·refine⟨.bl (bs.all id),H,I.kept (old_kept hk),?_,aS.refl H,Rep.bl.mpr rfl⟩
    show Value.bool _=Value.bool _
    rw[←range_all]
    simp
  ·cases hg
 ·cases hg
theorem G4(hc:X.calm=true):ft X (.builtin "any") Cs:=by
 intro pins s σ H B ds d xs us I hb rx rs hg
 unfold Cs at hg
 split at hg
 ·split at hg
  ·rename_i es bs e
   cases hg
   obtain⟨x,rfl,r⟩:=rs.one
   obtain⟨a,ys,rfl,l,r⟩:=Rep.lst.mp r
   obtain⟨u,rfl,ru⟩:=vals1 rx
   cases ru
   obtain⟨its,n,rv,e1,hz⟩:=I.D0 l
   rw[p9 r e] at rv
   obtain rfl:=lj rv
   have hl:s.heap.IsList a (bs.map Value.bool).toArray:=⟨_,e1,rfl,n,rfl⟩
   have hlt:a < s.heap.objs.size:=Heap.lt_size e1
   refine call_any_walk (wpAny_pyIter_list hl ?_)
   refine⟨_,_,_,_,_,_,fun i=>bs.getD i false,rfl,Walks.list (A:=X.A.in1) (I.ok.hd hc) _ a (Nat.ne_of_lt hlt) _,⟨⟨_,Heap.get?_push_size _ rfl,rfl,rfl⟩,hl.push _⟩,?_,fun h' tk hk=>?_⟩
   ·intro i v s Q E hP hQ
    rw[DF hP]
    exact wpAny_truthy_bool hQ
   ·refine⟨.bl (bs.any id),H,I.kept (old_kept hk),?_,aS.refl H,Rep.bl.mpr rfl⟩
    show Value.bool _=Value.bool _
    rw[←range_any]
    simp
  ·cases hg
 ·cases hg
end
end L2
end
section
set_option maxRecDepth 100000
set_option maxHeartbeats 4000000
namespace L2
open PySem PySem.Spec PyProof.Rows
section
variable {X:Cx}
noncomputable def Lr:FS:=fun _=> .no
noncomputable def JA(f:FD):FS:=fun δ=>(f δ).bind fun _=> .ok (.nx δ)
end
end L2
namespace L3
open PySem PySem.Spec PyProof.Rows L2
section
variable {X:Cx} {cl:Nat→Addr}
noncomputable def Lp:FZ:=fun _ _=> .no
noncomputable def J4(f:aw→R (List D)):FX:=fun δ S=>(R3.of (f (cD S δ)) S).bind fun ds S=>R3.bE (k8 ds) (.ok (.loc S.length) (S++[.lst ds]))
noncomputable def Bv(i:Nat)(f:FX):FZ:=fun δ S=>match eI δ i with
 | none=> .no
 | some k=>match bW S k with
   | none=> .no
   | some _=>(f δ S).bind fun v S1=>match v with
     | .d (.lst es)=>(match bW S1 k with
       | some ds=>R3.bE (decide (ds.length+es.length≤sizeLine)) (.ok (.nx δ) (S1.set k (.lst (ds++es))))
       | none=> .no)
     | _=> .no
theorem D7{i:Nat}{x:Str}{e:Expr}{f:FX}{npos apos cpos pos:Pos}(hN:X.N[i]? =some x)(hv:BM X.env.scope x)(he:PX X cl e f)
 (hd:(x==("__debug__":Str))=false:=by decide) (hcd:(x==("__classdict__":Str))=false:=by decide)
 (hs:starEach [e] X.env=(false,eval e X.env) ::starEach [] X.env:=by rfl) (hline:(apos.endLine==cpos.line)=true:=by rfl)
 (hfew:((backTo cpos (starEach [e] X.env)).all (fun x=>!x.1) && (backToKw cpos (keywordEach [] X.env)).all (fun x=>x.1.isSome)
   && decide (([e]:List Expr).length+([]:List Keyword).length+(if([]:List Keyword).isEmpty then 0 else 1) < 30))=true:=by rfl)
 (hsw:swapsWith (.Call (.Attribute (.Name x npos) "extend" apos) [e] [] cpos) none pos.line X.env=pure false:=by rfl)
 (hbase:attributeBase (.Name x npos) "extend" X.env (eval (.Name x npos) X.env)=eval (.Name x npos) X.env:=by rfl) :
 PZ X cl (.Expr (.Call (.Attribute (.Name x npos) "extend" apos) [e] [] cpos) pos) (Bv i f):=by
 refine⟨(sg (xE (X:=X) PySem.F.plainAttrs_list PySem.F.slot_list_extend PySem.F.type_list_extend vI (ng hN hv hd hcd) (eT he.1 gH hs) hbase hfew hline hs) hsw).imp fun D σ H ⟨ρ,S,δ,o,S',E,hf,q⟩=>?_⟩
 unfold Bv at hf
 split at hf
 ·cases hf
 ·rename_i k hk
  split at hf
  ·cases hf
  ·rename_i ds0 h0
   obtain⟨v,S1,h1,h2⟩:=R3.aj hf
   split at h2
   ·rename_i es
    split at h2
    ·rename_i ds h3
     obtain⟨hl,h4⟩:=R3.bf h2
     cases h4
     obtain⟨u,u1,u2⟩:=E.val i _ (ip hk)
     unfold aZ at u2
     obtain⟨a,a1,rfl⟩:=u2
     obtain⟨xs0,x0,_⟩:=E.sw.ob k a _ a1 (cJ h0)
     refine⟨.ref a,u1, .inl ⟨rfl,xs0,kZ.of x0⟩,⟨ρ,S,δ, .d (.lst es),S1,E,h1,fun y ρ1 H1 p1 w1 r1=>?_⟩⟩
     have b1:=p1.ext k a a1
     obtain⟨xs,x1,x2⟩:=w1.ob k a _ b1 (cJ h3)
     unfold aZ at r1
     obtain⟨b,ys,rfl,l,r'⟩:=Rep.lst.mp r1
     refine⟨a,b,xs,ys,rfl,rfl,x1,⟨_,l⟩,by rw[←x2.length,←r'.length];exact of_decide_eq_true hl,?_⟩
     obtain⟨w2,p2⟩:=w1.put (o:= .lst (ds++es)) (u:= .lst (xs++ys)) b1 (w1.fz k a b1 (by rw[cJ h3];intro h;cases h)) ⟨xs++ys,rfl,x2.append r'⟩
     exact q σ ρ1 _ (p1.trans p2) (E.to (p1.trans p2) w2)
    ·cases h2
   ·cases h2
theorem HB{i k:Nat}{f:FX}{δ:DE}{S:aH}{QO:Ou→aH→Prop}(hk:δ[i]? =some (some (.loc k)))(h0:∃ds,S[k]? =some (.lst ds))(h:W3 (f δ S) fun v S1=>∃es ds,v= .d (.lst es)∧S1[k]? =some (.lst ds)∧ds.length+es.length≤sizeLine∧QO (.nx δ) (S1.set k (.lst (ds++es)))):W3 (Bv i f δ S) QO:=by
 obtain⟨es,h0⟩:=h0
 unfold Bv
 have e1:eI δ i=some k:=by unfold eI;rw [hk]
 have e2:bW S k=some es:=by unfold bW;simp only[h0]
 rw[e1];show W3 (match bW S k with | none=>_ | some _=>_) _
 rw[e2]
 refine W3.bind (h.mono fun v S1 ⟨d,ds,e,h1,hl,q⟩=>?_)
 subst e
 have e3:bW S1 k=some ds:=by unfold bW;simp only[h1]
 show W3 (match bW S1 k with | some ds=>_ | none=>_) _
 rw[e3]
 exact W3.wh (decide_eq_true hl) (W3.ok q)
end
end L3
end
section
set_option maxRecDepth 100000
set_option maxHeartbeats 4000000
namespace L2
open PySem PySem.Spec PyProof.Rows
section
variable {X:Cx}
theorem Bm{prog:Program}{w:World}{A:Around}{E:Value→Shared→Prop}{s:Shared}{t b:Addr}{vs ws:List Value}{Q:Value→Shared→Prop}(ht:IsTup s.heap t vs.toArray)(hb:IsTup s.heap b ws.toArray)
 (h0:vs=[]→Q (.ref b) s) (h1:vs≠[]→ws=[]→Q (.ref t) s) (h2:vs≠[]→ws≠[]→Q (.ref s.heap.objs.size) {s with heap:=s.heap.push {cls:= .type "tuple",data:= .seq (vs++ws).toArray}})
 (hsz:vs.length+ws.length≤sizeLine):wpAny (model prog w) A (binaryOp .Add (.ref t) (.ref b)) Q E s:=by
 by_cases hv:vs=[]
 ·obtain⟨⟨cls,dd,data,sl⟩,ho,hc,n,hd⟩:=id ht;obtain⟨⟨cls2,dd2,data2,sl2⟩,ho2,hc2,n2,hd2⟩:=id hb
  simp only at hc hd hc2 hd2;subst hc hd hc2 hd2
  exact concat_meets ⟨_,ho,rfl⟩ ⟨_,ho2,rfl⟩ noFill_tuple_add seq_tuple_add PySem.F.slot_tuple_add PySem.F.entry_tuple_add (PySem.F.args_tuple_add_2 _ _) (tuple_addW0 t b vs.toArray ws.toArray n n2 dd dd2 sl sl2 (by simp [hv])) ⟨ho,ho2,h0 hv⟩
 ·exact HT.C_ ht hb hv (h1 hv) (h2 hv) hsz
noncomputable def jg(d e:D):R D:=match d,e with
 | .tup a, .tup b=>R.bE (decide (a.length+b.length≤sizeLine)) (.ok (.tup (a++b)))
 | d,e=>f7 d e
theorem qZ.fresh{K:PySem.W.Frag}{B:List Addr}{H:Hp}{p:Addr}{xs:List V}(hb:∀a∈B,∃o,H a=some o)(hp:H p=none):qZ K B (upd H p (.tup xs)) p xs:= .inl ⟨fun ha=>(by obtain⟨o,ho⟩:=hb p ha;rw [hp] at ho;cases ho), .inl aQ⟩
theorem lC:jB X (binaryOp .Add) jg:=by
 intro pins s σ H B da db d x y v u I hb rx ry ra rb hg
 by_cases ht:∃a b,da= .tup a∧db= .tup b
 ·obtain⟨a,b,rfl,rfl⟩:=ht
  have hg:R.bE (decide (a.length+b.length≤sizeLine)) (.ok (.tup (a++b)))= .ok d:=hg
  obtain⟨h1,h2⟩:=R.bf hg
  cases h2
  have h1:=of_decide_eq_true h1
  have ra':=ra
  have rb':=rb
  obtain⟨a1,xs1,rfl,l1,r1⟩:=Rep.tup.mp ra
  obtain⟨a2,xs2,rfl,l2,r2⟩:=Rep.tup.mp rb
  cases rx
  cases ry
  obtain⟨its,rv1,p1,_⟩:=I.tuple l1.sq
  obtain⟨its2,rv2,p2,_⟩:=I.tuple l2.sq
  have e1:=rv1.length
  have e2:=rv2.length
  have e3:=r1.length
  have e4:=r2.length
  refine Bm p1 p2 (fun z=>⟨.ref a2,H,I,rfl,aS.refl H,?_⟩) (fun _ z=>⟨.ref a1,H,I,rfl,aS.refl H,?_⟩) (fun _ _=>?_) (by omega)
  ·obtain rfl:a=[]:=List.eq_nil_of_length_eq_zero (by rw[e3,e1,z];rfl)
   exact rb'
  ·obtain rfl:b=[]:=List.eq_nil_of_length_eq_zero (by rw[e4,e2,z];rfl)
   rw[List.append_nil];exact ra'
  ·have hp:H s.heap.objs.size=none:=I.hok.fresh (Nat.le_refl _)
   refine⟨.ref s.heap.objs.size,_,I.laid (t':=s.toks) (o:= .tup (xs1++xs2)) (fun b ob q=>Heap.get?_push_of_some _ q) (Nat.le_refl _) ⟨by rw[List.length_append];omega,_,rv1.append rv2,IsTup.new _ _⟩,rfl,aP hp,Rep.tup.mpr ⟨_,_,rfl,qZ.fresh hb hp,(r1.append r2).same (aP hp)⟩⟩
 ·have hg:f7 da db= .ok d:=by
   unfold jg at hg
   split at hg
   ·exact absurd ⟨_,_,rfl,rfl⟩ ht
   ·exact hg
  exact hW pins s σ H B da db d x y v u I hb rx ry ra rb hg
theorem xU.or{tg e:Expr}{F F1 F2:aw→R (List D)}(h1:xU X tg e F1)(h2:xU X tg e F2)(h:∀δ ds,F δ= .ok ds→F1 δ= .ok ds∨F2 δ= .ok ds):xU X tg e F:=
 ⟨fun pins s σ H R I ⟨Z,B,δ,ds,E,hf,q⟩=>(h δ ds hf).elim (fun z=>h1.1 pins s σ H R I ⟨Z,B,δ,ds,E,z,q⟩) fun z=>h2.1 pins s σ H R I ⟨Z,B,δ,ds,E,z,q⟩⟩
noncomputable def xj(f:FD):aw→R (List D):=fun δ=>(f δ).bind fun d=>match d with | .lst ds=> .ok (cX ds) | .tup ds=> .ok (cX ds) | _=> .no
theorem vy{elts:List Expr}{k:Nat}{tpos:Pos}{a:Expr}{f:FD}{p pos:Pos}(h:QD X a f)(hg:Gl X "enumerate")(hm:X.mg "enumerate"=none)(hs:starEach [a] X.env=[(false,eval a X.env)]:=by rfl):xU X (.Tuple elts k tpos) (.Call (.Name "enumerate" p) [a] [] pos) (xj f):=
 xU.or (F1:=eL f) (F2:=sf f) ⟨uH h.1 hg hm hs⟩ (ve h hg hm hs) fun δ ds hf=>by
  obtain⟨d,h1,h2⟩:=R.aj hf
  cases d with
  | lst es=>cases h2;exact .inl (by unfold eL;rw [h1];rfl)
  | tup es=>cases h2;exact .inr (by unfold sf;rw [h1];rfl)
  | _=>cases h2
noncomputable def J_(K:PySem.W.Frag)(a:Addr)(n:Nat):It:=
 ⟨fun i H=>∃xs x,kZ K H a xs∧xs.length=n∧i < n∧xs[n - 1 - i]? =some x,fun i H v H'=>H'=H∧∀xs,kZ K H a xs→xs[n - 1 - i]? =some v,fun i H=>(∃xs,kZ K H a xs)∧i=n⟩
theorem Bj{P:Program}{w:World}{K:PySem.W.Frag}{tg:Expr}(a it:Addr)(n:Nat):Turn P w K tg (J_ K a n) [it] it (fun i h=>h.IsRevIter it a ((n:Int) - 1 - (i:Int))) where
 mem:=by simp
 obj:=fun i h st b hb=>by
  have e:b=it:=by simpa using hb
  subst e
  obtain⟨o,e,c,d⟩:=st
  exact⟨o,e,fun v z=>by rw[d] at z;cases z⟩
 keep:=fun i h h' st k=>st.at fun o e=>k it (by simp) o e
 item:=by
  intro X hP hw hK hc i pins s σ H E I hf st hg
  subst hP hw hK
  obtain⟨xs,x,hq,hn,hi,hx⟩:=hg
  obtain⟨its,rv,p,hz⟩:=I.list hq
  obtain⟨u,hu,ru⟩:=rv.get hx
  obtain⟨f0,f1,f2,f3,f4,f5⟩:=hf it (by simp)
  have e0:(n:Int) - 1 - (i:Int)=((n - 1 - i:Nat):Int):=by omega
  rw[e0] at st
  refine wpAny_pyNext_rev_item st p.isList (x:=u) (by simpa using hu) fun h' st' sb=>?_
  have I1:Inv X pins σ H {s with heap:=h'}:=I.turned (t':=s.toks) (fun b o hb e=>(sb.2 b hb).trans e) f0 f1 f3 f4 f5
  have st2:h'.IsRevIter it a ((n:Int) - 1 - ((i+1:Nat):Int)):=by
   rw[show((n - 1 - i:Nat):Int) - 1=(n:Int) - 1 - ((i+1:Nat):Int) by omega] at st';exact st'
  obtain⟨o,e,c,d⟩:=id st2
  exact⟨u,rfl,xC (s:={s with heap:=h'}) e c d (by decide) ⟨x,H,I1,ru,⟨rfl,fun ys hy=>by rw[I.l0 hy hq];exact hx⟩,st2,fun b hb=>(hf b hb).1⟩⟩
 done:=by
  intro X hP hw hK hc i pins s σ H E I hf st hg
  subst hP hw hK
  obtain⟨_,rfl⟩:=hg
  obtain⟨f0,f1,f2,f3,f4,f5⟩:=hf it (by simp)
  rw[show(i:Int) - 1 - (i:Int)= -1 by omega] at st
  exact wpAny_pyNext_rev_end (I.ok.hd hc) st fun h' eb=>⟨rfl,I.turned (t':=s.toks) (fun b o hb e=>eb b o hb e) f0 f1 f3 f4 f5⟩
 self:=fun _ _ _ _ _ st h=>wpAny_pyIter_revIter st h
noncomputable def D4(f:FD):aw→R (List D):=fun δ=>(f δ).bind fun d=>match d with | .lst ds=> .ok ds.reverse | _=> .no
theorem Aj{tg a:Expr}{f:FD}{p pos:Pos}(h:QD X a f)(hg:Gl X "reversed")(hm:X.mg "reversed"=none)(hs:starEach [a] X.env=[(false,eval a X.env)]:=by rfl):xU X tg (.Call (.Name "reversed" p) [a] [] pos) (D4 f):=by
 refine⟨?_⟩
 intro pins s σ H RR I ⟨Z,B,δ,ds,E,hf,q⟩
 obtain⟨d,h1,h2⟩:=R.aj hf
 have hA:=eT h.1 gH hs pos pins s σ H (fun vs H1=>aS H H1∧∃v,vs=[v]∧Rep X.K B H1 d v) I ⟨Z,B,δ,d,E,h1,fun v H1 s1 r1=>⟨s1,v,rfl,r1⟩⟩
 refine Call_ (lI I hg hm boot_reversed (PyProof.Rows.callWith_type1 (dR hA fun us s1 ⟨vs,H1,I1,r1,ss,v,ev,rr⟩=>?_) hs rfl))
 subst ev
 obtain⟨u,rfl,ru⟩:=vals1 r1
 cases d with
 | lst es=>
   cases h2
   obtain⟨b,xs,rfl,l,rs⟩:=Rep.lst.mp rr
   cases ru
   obtain⟨its,rv,pl,hz⟩:=I1.list l.sq
   have e1:=rv.length
   have e2:=rs.length
   refine call_reversed_list pl.isList (wpAny_pyIter_revIter (i:=(its.toArray.size:Int) - 1) ⟨_,Heap.get?_push_size _ rfl,rfl,rfl⟩ ?_)
   refine⟨s1.heap.objs.size,[s1.heap.objs.size],_,_,H1,rfl,I1.kept (t':=s1.toks) fun b o e=>Heap.get?_push_of_some _ e,Bj b _ es.length,?_,fun c hc=>?_,q _ H1 ss fun B' H' pr=>?_⟩
   ·refine⟨_,Heap.get?_push_size _ rfl,rfl,?_⟩
    show Data.fields #[.ref b,rawInt ((its.toArray.size:Int) - 1)]=Data.fields #[.ref b,rawInt ((es.length:Int) - 1 - ((0:Nat):Int))]
    rw[List.size_toArray,←e1,←e2,show((es.length:Nat):Int) - 1 - ((0:Nat):Int)=(es.length:Int) - 1 by omega]
   ·have e:c=s1.heap.objs.size:=by simpa using hc
    subst e
    exact I1.ql (Nat.le_refl _) (I1.hok.fresh (Nat.le_refl _))
   ·have l':qd X.K B' H' b xs:=l.bo pr
    have rs':=rs.bo pr
    refine⟨fun i d hd=>?_,⟨xs,l'.sq⟩,by rw[List.length_reverse]⟩
    have hi:i < es.length:=by have:=(List.getElem?_eq_some_iff.mp hd).1;rwa [List.length_reverse] at this
    rw[List.getElem?_reverse hi] at hd
    obtain⟨x,hx,rx⟩:=rs'.get hd
    refine⟨⟨xs,x,l'.sq,e2.symm,hi,hx⟩,fun v H'' yl hB'=>?_⟩
    obtain⟨rfl,hy⟩:=yl
    have hy2:=hy xs l'.sq
    rw[hx] at hy2
    cases hy2
    exact⟨aS.refl _,rx⟩
 | _=>cases h2
noncomputable def sk(K:PySem.W.Frag)(C:Addr)(m qual:Str)(st:Stmt):Prop:=∃f fd,wR K m qual st f fd∧Meth K C m f
noncomputable def yL(K:PySem.W.Frag)(C:Addr)(m qual:Str)(st:Stmt):Prop:=∃f fd,wR K m qual st f fd∧Mk K C f
end
end L2
namespace L3
open PySem PySem.Spec PyProof.Rows L2
section
variable {X:Cx} {cl:Nat→Addr}
theorem gE.p{P:Program}{w:World}{K:PySem.W.Frag}{mg:Str→Option Value}{base:Heap}{cl:Nat→Addr}{k c:Nat}{m:Str}{n:Nat}{N:List Str}{F:FZ}(C:gE P w K mg base cl k c m n (lL N F)):gE P w K mg base cl k c m n (mP N F):=
 let⟨f,fd,ps,c1,c2,F,h⟩:=C;⟨f,fd,ps,c1,c2,F.imp fun _ _ _ _ h=>vY h,h⟩
end
end L3
end
section
set_option maxRecDepth 100000
set_option maxHeartbeats 4000000
namespace L2
open PySem PySem.Spec PyProof.Rows
section
variable {X:Cx}
noncomputable def Ky(f:FD):aw→R (List D):=fun δ=>(f δ).bind fun d=>match d with | .int j=>R.bE (decide (-(2 ^ 62)≤j∧j < 16777216)) (.ok (dS 0 j.toNat)) | _=> .no
noncomputable def K6(f:FD):FD:=fun δ=>(f δ).bind fun d=>match d with | .lst ds=> .ok (.lst ds.reverse) | _=> .no
end
end L2
end
section
set_option maxRecDepth 100000
set_option maxHeartbeats 4000000
namespace L2
open PySem PySem.Spec PyProof.Rows
section
variable {X:Cx}
noncomputable def Kt(K:PySem.W.Frag)(n:Nat)(t:AJ):TG:=fun v σ H Q=>∃a xs,v= .ref a∧kZ K H a xs∧xs.length=n∧t xs σ H Q
end
end L2
namespace L3
open PySem PySem.Spec PyProof.Rows L2
section
variable {X:Cx} {cl:Nat→Addr}
noncomputable def Lz(n:Nat)(t:CT):FG:=fun d δ=>match d with
 | .d (.lst ds)=>if ds.length=n then t (ds.map .d) δ else none
 | .lst vs=>if vs.length=n then t vs δ else none
 | _=>none
noncomputable def Ck(f g:FX):FA:=fun δ S=>(av f (av g bU) δ S).bind fun vs S1=>match vs with
 | [.d d, .d e]=>(match seqD? d,seqD? e with | some ds,some es=> .ok ((qm ds es).map .d) S1 | _,_=> .no)
 | _=> .no
theorem x8{elts:List Expr}{k:Nat}{tpos:Pos}{a b:Expr}{f g:FX}{p pos:Pos}(h:PX X cl a f)(h':PX X cl b g)(hg:Gl X "zip")(hm:X.mg "zip"=none)(hs:starEach [a,b] X.env=[(false,eval a X.env),(false,eval b X.env)]:=by rfl)(hs2:starEach [b] X.env=[(false,eval b X.env)]:=by rfl) :
 DS X cl (.Tuple elts k tpos) (.Call (.Name "zip" p) [a,b] [] pos) (Ck f g):=by
 refine⟨?_⟩
 intro pins s σ H RR I ⟨ρ,S,δ,vs,S',E,hf,q⟩
 obtain⟨ws,S1,h1,h2⟩:=R3.aj hf
 have hA:=(ab h (ab h' aD hs2) (by rw[hs,hs2])).1 pos pins s σ H (fun us H1=>∃ρ1,Pre ρ H ρ1 H1∧SW X.K cl ρ1 H1 S1∧az X.K ρ1 H1 ws us) I
  ⟨ρ,S,δ,ws,S1,E,h1,fun us ρ1 H1 p1 w1 r1=>⟨ρ1,p1,w1,r1⟩⟩
 refine Call_ (lI I hg hm boot_zip (PyProof.Rows.callWith_type1 (dR hA fun us s1 ⟨xs,H1,I1,r1,ρ1,p1,w1,rr⟩=>?_) (by rw[hs,hs2]) (by rw[hs2];rfl)))
 rcases hsh:ws with _ | ⟨w0,_ | ⟨w2,_ | ⟨w3,wr⟩⟩⟩ <;> subst hsh
 ·cases h2
 ·cases w0 <;> cases h2
 ·rcases w0 with d | _ | _ | _ <;> rcases w2 with e | _ | _ | _ <;> try (cases h2;done)
  have h2:(match seqD? d,seqD? e with | some ds,some es=>R3.ok ((qm ds es).map V3.d) S1 | _,_=> .no)= .ok vs S':=h2
  cases e1:seqD? d with
  | none=>rw [e1] at h2;cases h2
  | some ls=>
    cases e2:seqD? e with
    | none=>rw [e1,e2] at h2;cases h2
    | some ms=>
      rw[e1,e2] at h2
      cases h2
      obtain⟨v,ys,ev,ra,rr⟩:=rr.bJ
      obtain⟨v',zs,ev',rb,rr⟩:=rr.bJ
      unfold az at rr
      subst rr ev' ev
      obtain⟨u,u',rfl,ru,ru'⟩:=vals2 r1
      unfold aZ at ra rb
      obtain⟨t,a,xs,rfl,k1⟩:=ra.CA e1
      obtain⟨w,b,ys,rfl,k2⟩:=rb.CA e2
      cases ru
      cases ru'
      obtain⟨its,rv,pp⟩:=I1.CA (k1 ρ1.b H1 (dq.refl _ H1)).1
      obtain⟨jts,rw',pp'⟩:=I1.CA (k2 ρ1.b H1 (dq.refl _ H1)).1
      have la:=pp.lt
      have lb:=pp'.lt
      refine yO pp pp' fun h₂ hz hTI hTO hi1 hi2 kk=>wpAny_pyIter_zip hz ?_
      have I2:Inv X pins σ H1 {s1 with heap:=h₂}:=I1.kept (t':=s1.toks) kk
      refine⟨s1.heap.objs.size+4,[s1.heap.objs.size+4,s1.heap.objs.size+2,s1.heap.objs.size+3,s1.heap.objs.size,s1.heap.objs.size+1],_,_,H1,rfl,I2,zB (t:=t) (u:=w) (zipApart_new la lb),⟨hz,hTI,⟨_,_,hTO⟩,hi1,hi2⟩,fun c hc=>?_,q _ ρ1 H1 p1 w1 (Gk.of fun B' H' pr=>?_)⟩
      ·have hle:s1.heap.objs.size≤c:=by
        simp only[List.mem_cons,List.not_mem_nil,or_false] at hc
        rcases hc with rfl | rfl | rfl | rfl | rfl <;> omega
       exact I1.ql hle (I1.hok.fresh hle)
      ·obtain⟨l1,rs1⟩:=k1 B' H' pr
       obtain⟨l2,rs2⟩:=k2 B' H' pr
       refine⟨fun i d hd=>?_,⟨xs,ys,l1,l2,?_⟩⟩
       ·unfold qm at hd
        rw[List.getElem?_map] at hd
        cases ez:(ls.zip ms)[i]? with
        | none=>rw [ez] at hd;cases hd
        | some pr'=>
          rw[ez] at hd
          have hd:D.tup [pr'.1,pr'.2]=d:=Option.some.inj hd
          obtain⟨ea,eb⟩:=List.getElem?_zip_eq_some.mp ez
          obtain⟨x,hx,rx⟩:=rs1.get ea
          obtain⟨y,hy,ry⟩:=rs2.get eb
          refine⟨⟨xs,ys,x,y,l1,l2,hx,hy⟩,fun v H'' yl hB'=>?_⟩
          obtain⟨p,x2,y2,hp,rfl,hx2,hy2,rfl⟩:=yl
          refine⟨aP hp,?_⟩
          subst hd
          have hx2:=hx2 xs l1
          have hy2:=hy2 ys l2
          rw[hx] at hx2;cases hx2
          rw[hy] at hy2;cases hy2
          refine Rep.tup.mpr ⟨p,_,rfl, .inl ⟨fun ha=>?_, .inl aQ⟩,aC.cons (rx.same (aP hp)) (aC.cons (ry.same (aP hp)) aC.nil)⟩
          obtain⟨o,ho⟩:=hB' p ha
          rw[hp] at ho;cases ho
       ·rw[←rs1.length,←rs2.length]
        unfold qm
        rw[List.length_map,List.length_zip]
        omega
 ·cases w0 <;> cases w2 <;> cases h2
theorem D2{f g:FX}{δ:DE}{S:aH}{Q:List V3→aH→Prop}(h:W3 (f δ S) fun v S1=>W3 (g δ S1) fun w S2=>∃d e ds es,v= .d d∧w= .d e∧seqD? d=some ds∧seqD? e=some es∧Q ((qm ds es).map .d) S2):W3 (Ck f g δ S) Q:=
 W3.bind (W3.bind (h.mono fun v S1 h2=>W3.bind (W3.bind (h2.mono fun w S2 ⟨d,e,ds,es,e1,e2',e3,e4,q⟩=>by
  subst e1 e2'
  exact W3.bind (W3.ok (W3.ok (W3.ok (by simp only[e3,e4];exact W3.ok q))))))))
noncomputable def nD(S:aH):Prop:=∀o∈S,lq S.length o=true
theorem Flat.JJ{S:aH}(h:Flat S):nD S:=fun o ho=>h o ho _
theorem HA{N:List Str}{F:FZ}{vs:List V3}{S:aH}{QV:V3→aH→Prop}(h:W3 (lL N F vs S) fun v S1=>(∀o∈S1.take S.length,lq S.length o=true)∧fw S.length v=true∧∃d,res S1 v=some d∧QV (.d d) (S1.take S.length)):W3 (mP N F vs S) QV:=
 W3.bind (h.mono fun v S1 ⟨hl,hg,d,e,q⟩=>by
  rw[e]
  exact W3.wh (by rw[List.all_eq_true.mpr hl,hg];rfl) (W3.ok q))
theorem mi{N:List Str}{F:FZ}{vs:List V3}{S:aH}{QV:V3→aH→Prop}(hS:nD S)(h:W3 (lL N F vs S) fun v S1=>fw S.length v=true∧(∃T,S1=S++T)∧∃d,res S1 v=some d∧QV (.d d) S):W3 (mP N F vs S) QV:=
 HA (h.mono fun v S1 ⟨hg,⟨T,e1⟩,d,e,q⟩=>by
  subst e1
  rw[List.take_append_of_le_length (Nat.le_refl _),List.take_length]
  exact⟨hS,hg,d,e,q⟩)
end
end L3
end
section
set_option maxRecDepth 100000
set_option maxHeartbeats 4000000
namespace L2
open PySem PySem.Spec PyProof.Rows
section
variable {X:Cx}
noncomputable def ois?:List D→Option (List (Option Int))
 | []=>some []
 | .int i ::ds=>(ois? ds).map (some i ::·)
 | .cK ::ds=>(ois? ds).map (none ::·)
 | _ ::_=>none
noncomputable def Lx:Option Int→V | some i=> .int i | none=> .cK
noncomputable def K2(d e:D):R Bool:=match d,e with
 | .cK, .lst ds=>(match ois? ds with | some ss=> .ok (ss.any (·.isNone)) | none=> .no)
 | _,_=> .no
noncomputable def KD(d e:D):R D:=(K2 d e).bind fun b=> .ok (.bl b)
end
end L2
end
section
set_option maxRecDepth 100000
set_option maxHeartbeats 4000000
namespace L2
open PySem PySem.Spec PyProof.Rows
section
variable {X:Cx}
noncomputable def IQ(d:D)(ds:List D):R D:=match d,ds with
 | .lst es,[.int k]=>(match ints? es with | some ss=> .ok (.int (ss.count k:Nat)) | none=> .no)
 | _,_=> .no
end
end L2
end
section
set_option maxRecDepth 100000
set_option maxHeartbeats 4000000
namespace L2
open PySem PySem.Spec PyProof.Rows
section
variable {X:Cx}
noncomputable abbrev Kw:D→D→R D:=uc (fun i j=>decide (0≤j∧j < 1000∧ -1000 < i∧i < 1000)) fun i j=>i*2 ^ j.toNat
noncomputable def JV(d e:D):R D:=match d,e with | .bl a, .bl b=> .ok (.bl (a !=b)) | _,_=> .no
end
end L2
namespace L3
open PySem PySem.Spec PyProof.Rows L2
section
variable {X:Cx} {cl:Nat→Addr}
noncomputable def JZ(fo f:FX):FZ:=fun δ S=>(fo δ S).bind fun o S0=>match o with
 | .loc k=>(match bW S0 k with
   | none=> .no
   | some _=>(f δ S0).bind fun v S1=>match v with
     | .d d=>(match bW S1 k with | some ds=>R3.bE (decide (ds.length < sizeLine)) (.ok (.nx δ) (S1.set k (.lst (ds++[d])))) | none=> .no)
     | _=> .no)
 | _=> .no
noncomputable def J8(f:FX):FA:=fun δ S=>(av f bU δ S).bind fun vs S1=>match vs with
 | [.d (.lst ds)]=> .ok ((cX ds).map .d) S1
 | _=> .no
end
end L3
end
section
set_option maxRecDepth 100000
set_option maxHeartbeats 4000000
namespace L2
open PySem PySem.Spec PyProof.Rows
section
variable {X:Cx}
end
end L2
end
section
set_option maxRecDepth 100000
set_option maxHeartbeats 4000000
namespace L3
open PySem PySem.Spec PyProof.Rows L2
section
variable {cl:Nat→Addr}
noncomputable def Jk(it:FA)(t:FG)(c:FB)(f:FX)(own:List Str)(kp:List Nat):FX:=fun δ S=>(it δ S).bind fun vs S1=>R3.bE (decide (vs.length≤sizeLine)) ((kD t c f (fQ own kp δ) vs S1).bind fun ys S2=>match jF ys with | some ds=> .ok (.loc S2.length) (S2++[.lst ds]) | none=> .no)
end
section
variable {X:Cx} {cl:Nat→Addr}
end
end L3
end
section
set_option maxRecDepth 100000
set_option maxHeartbeats 4000000
namespace L3
open PySem PySem.Spec PyProof.Rows L2
section
variable {X:Cx} {cl:Nat→Addr}
noncomputable def Jt(g:List D→R D)(fs:FA):FX:=fun δ S=>(fs δ S).bind fun vs S1=>match lx S1 vs with
 | some ds=>(R3.of (g ds) S1).bind fun d S=>R3.bE (md d) (.ok (.d d) S)
 | none=> .no
end
end L3
end
section
set_option maxRecDepth 100000
set_option maxHeartbeats 4000000
namespace L2
open PySem PySem.Spec PyProof.Rows
section
variable {X:Cx}
noncomputable def Kg(f:FD):FD:=fun δ=>(f δ).bind fun d=>match d with | .int i=> .ok (.int (-i - 1)) | _=> .no
noncomputable def Jh(d:D)(lo hi:Option Int):R D:=match d with
 | .tup ds=>R.bE (decide (¬(HT.fP ds.length 0 lo=0∧HT.fP ds.length ds.length hi=ds.length))) (.ok (.tup (cutD ds lo hi)))
 | _=> .no
noncomputable def CN(f:FD)(fl fh:FO):FD:=fun δ=>(f δ).bind fun d=>(fl δ).bind fun lo=>(fh δ).bind fun hi=>Jh d lo hi
theorem Dh{e:Expr}{lo hi:Option Expr}{f:FD}{fl fh:FO}{p2 pos:Pos}(he:QD X e f)(hl:QP X lo fl)(hh:QP X hi fh):QD X (.Subscript e (.Slice lo hi none p2) pos) (CN f fl fh):=by
 refine⟨(pN Ef he.1 hl.1 hh.1).imp fun σ H Q ⟨Z,B,δ,d,E,hf,q⟩=>?_⟩
 obtain⟨d1,h1,h2⟩:=R.aj hf
 obtain⟨l,h3,h4⟩:=R.aj h2
 obtain⟨h,h5,h6⟩:=R.aj h4
 refine⟨Z,B,δ,d1,E,h1,fun v1 H1 s1 r1=>⟨Z,B,δ,l,E.same s1,h3,fun H2 s2=>⟨Z,B,δ,h,(E.same s1).same s2,h5,fun H3 s3=>?_⟩⟩⟩
 have sA:aS H H3:=s1.trans (s2.trans s3)
 have r1':=r1.same (s2.trans s3)
 unfold Jh at h6
 split at h6
 ·obtain⟨hz,h7⟩:=R.bf h6
  cases h7
  obtain⟨a,xs,rfl,ls,rs⟩:=Rep.tup.mp r1'
  have hz:=of_decide_eq_true hz
  rw[rs.length] at hz
  refine⟨a,xs,rfl,ls.sq,hz,fun p hp=>q _ _ (sA.trans (aP hp)) (Rep.tup.mpr ⟨p,_,rfl, .inl ⟨fun ha=>?_,?_⟩,(uA rs l h).same (aP hp)⟩)⟩
  ·obtain⟨o,ho⟩:=(E.same sA).bs p ha
   rw[hp] at ho;cases ho
  ·exact .of aQ
 ·cases h6
end
end L2
namespace L3
open PySem PySem.Spec PyProof.Rows L2
section
variable {X:Cx} {cl:Nat→Addr}
structure HM (X:Cx) (cl:Nat→Addr) (st:List Stmt) (F:FZ):Prop where
 go:sT X st (fun D σ H=>D.ct=D.nx∧sX X.K cl F D σ H)
theorem ES{st:List Stmt}{F:FZ}(h:zl X cl st F):HM X cl st F:=⟨h.1.imp fun D σ H z=>z.2⟩
theorem AG{c:Expr}{rest:List Stmt}{fc:FB}{G:FZ}{pos pos2:Pos}(hc:yH X cl c fc)(h2:HM X cl rest G):HM X cl (.If c [.Continue pos2] [] pos ::rest) (sV fc ku G):=
 ⟨(pM (AE hc.1 (sP tV) rO) h2.1).imp fun D σ H ⟨ec,ρ,S,δ,o,S',E,hf,q⟩=>by
   obtain⟨k,S1,h1,h2⟩:=R3.aj hf
   refine⟨ρ,S,δ,k,S1,E,h1,fun ρ1 H1 p1 w1=>?_⟩
   cases k with
   | true=>
     rw[if_pos rfl] at h2
     cases h2
     refine Al ?_
     show D.ct σ H1
     rw[ec]
     exact q σ ρ1 H1 p1 (E.to p1 w1)
   | false=>rw [if_neg (by decide)] at h2;exact z8 ⟨ec,ρ1,S1,δ,o,S',E.to p1 w1,h2,q.pre p1⟩⟩
theorem CY{tg iter:Expr}{body:List Stmt}{it:FA}{t:FG}{F:FZ}{pos:Pos}(hp:PassesOwn (model X.prog X.w) X.A X.env X.xe)(hc:X.calm=true)(hi:DS X cl tg iter it)(hg:DD X cl tg t)(hb:HM X cl body F)
 (hs:∀x,foldedSetIterable iter X.env x=pure x:=by intro _;rfl):PZ X cl (.For tg iter body [] pos) (i0 it t F):=⟨(vO hp hc hi.1 hg.1 hb.1 hs).imp fun D σ H ⟨ρ,S,δ,o,S',E,hf,q⟩=>by
 obtain⟨ds,S0,h1,h2⟩:=R3.aj hf
 refine⟨ρ,S,δ,ds,S0,E,h1,fun J ρ1 H1 p1 w1 ir=>?_⟩
 refine⟨fun i m σ' H'=>m=ds.length - i∧i≤ds.length∧∃ρ' S1 δ',Pre ρ1 H1 ρ' H'∧eM X.K cl ρ' H' S1 σ' δ'∧iS t F (ds.drop i) δ' S1= .ok o S',⟨ds.length,rfl,Nat.zero_le _,ρ1,S0,δ,Pre.refl ρ1 H1,E.to p1 w1,by simpa using h2⟩,?_⟩
 rintro i m σ' H' ⟨rfl,hi,ρ',S1,δ',pv,E',hl⟩
 obtain⟨go,stop⟩:=ir ρ' H' pv.pw E'.sw.bs
 by_cases hlt:i < ds.length
 ·have hd:ds[i]? =some ds[i]:=List.getElem?_eq_getElem hlt
  have hdrop:ds.drop i=ds[i] ::ds.drop (i+1):=List.drop_eq_getElem_cons hlt
  rw[hdrop] at hl
  unfold iS at hl
  split at hl
  ·cases hl
  ·rename_i δ1 h3
   obtain⟨o1,S2,h5,h6⟩:=R3.aj hl
   obtain⟨g1,g2⟩:=go i _ hd
   refine .inr ⟨g1,fun σ2 H2=>∃ρ2 S2 δ2,Pre ρ1 H1 ρ2 H2∧eM X.K cl ρ2 H2 S2 σ2 δ2∧iS t F (ds.drop (i+1)) δ2 S2= .ok o S',fun σ2 H2 n=>⟨ds.length - (i+1),by omega,rfl,hlt,n⟩,fun x H'' y=>?_⟩
   obtain⟨ss,rr⟩:=g2 x H'' y
   refine⟨ρ',S1,δ',ds[i],δ1,E'.same ss,rr,h3,fun σ2 H2 s2 E2=>⟨rfl,ρ',S1,δ1,o1,S2,E2,h5,?_⟩⟩
   have pv2:Pre ρ1 H1 ρ' H2:=pv.trans (Pre.same (ss.trans s2))
   cases o1 with
   | nx δ2=>exact fun σ3 ρ3 H3 p3 E3=>⟨ρ3,S2,δ2,pv2.trans p3,E3,h6⟩
   | rt d=>
     cases h6
     exact fun v ρ3 H3 p3 w r=>q v ρ3 H3 (p1.trans (pv2.trans p3)) w r
 ·have e:i=ds.length:=by omega
  subst e
  rw[List.drop_length] at hl
  cases hl
  exact .inl ⟨stop,q σ' ρ' H' (p1.trans pv) E'⟩⟩
end
end L3
end
section
set_option maxRecDepth 100000
set_option maxHeartbeats 4000000
namespace L2
open PySem PySem.Spec PyProof.Rows
theorem aC.eraseIdx{K:PySem.W.Frag}{B:List Addr}{H:Hp}:∀{ds:List D} {xs:List V} (i:Nat),aC K B H ds xs→aC K B H (ds.eraseIdx i) (xs.eraseIdx i)
 | [],xs,i,r=>by unfold aC at r;subst r;exact aC.nil
 | d ::ds,xs,0,r=>by
   obtain⟨x,r',rfl,_,h2⟩:=r.bJ
   exact h2
 | d ::ds,xs,i+1,r=>by
   obtain⟨x,r',rfl,h1,h2⟩:=r.bJ
   exact aC.cons h1 (h2.eraseIdx i)
end L2
namespace L3
open PySem PySem.Spec PyProof.Rows L2
section
variable {X:Cx} {cl:Nat→Addr}
noncomputable def Bg(i:Nat)(f:FX):FX:=fun δ S=>match eI δ i with
 | none=> .no
 | some k=>match bW S k with
   | none=> .no
   | some _=>(f δ S).bind fun v S1=>match v with
     | .d (.int j)=>(match bW S1 k with
       | some ds=>(match pF ds.length j with
         | some p=>(match ds[p]? with | some d=>R3.bE (decide (-(2 ^ 63)≤j∧j < 2 ^ 63)) (.ok (.d d) (S1.set k (.lst (ds.eraseIdx p)))) | none=> .no)
         | none=> .no)
       | none=> .no)
     | _=> .no
theorem Fq{i:Nat}{x:Str}{e:Expr}{f:FX}{npos apos cpos:Pos}(hN:X.N[i]? =some x)(hv:BM X.env.scope x)(he:PX X cl e f)
 (hd:(x==("__debug__":Str))=false:=by decide) (hcd:(x==("__classdict__":Str))=false:=by decide)
 (hs:starEach [e] X.env=(false,eval e X.env) ::starEach [] X.env:=by rfl) (hline:(apos.endLine==cpos.line)=true:=by rfl)
 (hfew:((backTo cpos (starEach [e] X.env)).all (fun x=>!x.1) && (backToKw cpos (keywordEach [] X.env)).all (fun x=>x.1.isSome)
   && decide (([e]:List Expr).length+([]:List Keyword).length+(if([]:List Keyword).isEmpty then 0 else 1) < 30))=true:=by rfl)
 (hbase:attributeBase (.Name x npos) "pop" X.env (eval (.Name x npos) X.env)=eval (.Name x npos) X.env:=by rfl) :
 PX X cl (.Call (.Attribute (.Name x npos) "pop" apos) [e] [] cpos) (Bg i f):=by
 refine⟨(xE (X:=X) PySem.F.plainAttrs_list PySem.F.slot_list_pop PySem.F.type_list_pop zw (ng hN hv hd hcd) (eT he.1 gH hs) hbase hfew hline hs).imp fun σ H Q ⟨ρ,S,δ,o,S',E,hf,q⟩=>?_⟩
 unfold Bg at hf
 split at hf
 ·cases hf
 ·rename_i k hk
  split at hf
  ·cases hf
  ·rename_i ds0 h0
   obtain⟨v,S1,h1,h2⟩:=R3.aj hf
   split at h2
   ·rename_i j
    split at h2
    ·rename_i ds h3
     split at h2
     ·rename_i p hp
      split at h2
      ·rename_i d hd'
       obtain⟨hl,h4⟩:=R3.bf h2
       cases h4
       have hl:=of_decide_eq_true hl
       obtain⟨u,u1,u2⟩:=E.val i _ (ip hk)
       unfold aZ at u2
       obtain⟨a,a1,rfl⟩:=u2
       obtain⟨xs0,x0,_⟩:=E.sw.ob k a _ a1 (cJ h0)
       refine⟨.ref a,u1, .inl ⟨rfl,xs0,kZ.of x0⟩,⟨ρ,S,δ, .d (.int j),S1,E,h1,fun y ρ1 H1 p1 w1 r1=>?_⟩⟩
       have b1:=p1.ext k a a1
       obtain⟨xs,x1,x2⟩:=w1.ob k a _ b1 (cJ h3)
       unfold aZ Rep at r1
       subst r1
       obtain⟨y,hy,ry⟩:=x2.get hd'
       refine⟨a,xs,j,p,y,rfl,rfl,x1,hl.1,hl.2,by rw[←x2.length];exact(rF hp).1,hy,?_⟩
       obtain⟨w2,p2⟩:=w1.put (o:= .lst (ds.eraseIdx p)) (u:= .lst (xs.eraseIdx p)) b1 (w1.fz k a b1 (by rw[cJ h3];intro h;cases h)) ⟨xs.eraseIdx p,rfl,x2.eraseIdx p⟩
       exact q y ρ1 _ (p1.trans p2) w2 (by unfold aZ;exact ry.bo p2.bo)
      ·cases h2
     ·cases h2
    ·cases h2
   ·cases h2
theorem Hw{i k:Nat}{f:FX}{δ:DE}{S:aH}{QV:V3→aH→Prop}(hk:δ[i]? =some (some (.loc k)))(h0:∃ds,S[k]? =some (.lst ds))(h:W3 (f δ S) fun v S1=>∃(p:Nat) (d:D) (ds:List D),v= .d (.int p)∧p < 1000000∧S1[k]? =some (.lst ds)∧ds[p]? =some d∧QV (.d d) (S1.set k (.lst (ds.eraseIdx p)))):W3 (Bg i f δ S) QV:=by
 obtain⟨ds0,h0⟩:=h0
 unfold Bg
 have e1:eI δ i=some k:=by unfold eI;rw [hk]
 have e2:bW S k=some ds0:=by unfold bW;simp only[h0]
 simp only[e1,e2]
 refine W3.bind (h.mono fun v S1 ⟨p,d,ds,e3,hp,e4,e5,q⟩=>?_)
 subst e3
 have e6:bW S1 k=some ds:=by unfold bW;simp only[e4]
 have hpl:p < ds.length:=(List.getElem?_eq_some_iff.mp e5).1
 have e7:pF ds.length (p:Int)=some p:=by unfold pF;rw [if_pos (by omega),if_pos (by omega)];simp
 simp only[e6,e7,e5]
 exact W3.wh (decide_eq_true ⟨by omega,by omega⟩) (W3.ok q)
end
end L3
end
section
set_option maxRecDepth 100000
set_option maxHeartbeats 4000000
namespace L3
open PySem PySem.Spec PyProof.Rows L2
section
variable {X:Cx} {cl:Nat→Addr}
theorem az.drop{K:PySem.W.Frag}{ρ:P3}{H:Hp}:∀{ds:List V3} {xs:List V} (n:Nat),az K ρ H ds xs→az K ρ H (ds.drop n) (xs.drop n)
 | ds,xs,0,r=>by rw[List.drop_zero,List.drop_zero];exact r
 | [],xs,n+1,r=>by unfold az at r;subst r;exact az.nil
 | d ::ds,xs,n+1,r=>by
   obtain⟨x,r',rfl,_,h2⟩:=r.bJ
   exact h2.drop n
theorem az.take{K:PySem.W.Frag}{ρ:P3}{H:Hp}:∀{ds:List V3} {xs:List V} (n:Nat),az K ρ H ds xs→az K ρ H (ds.take n) (xs.take n)
 | ds,xs,0,r=>by rw[List.take_zero,List.take_zero];exact az.nil
 | [],xs,n+1,r=>by unfold az at r;subst r;exact az.nil
 | d ::ds,xs,n+1,r=>by
   obtain⟨x,r',rfl,h1,h2⟩:=r.bJ
   exact az.cons h1 (h2.take n)
noncomputable def Eo(f:FX)(fl fh:D3):FX:=fun δ S=>(f δ S).bind fun v S1=>(fl δ S1).bind fun lo S2=>(fh δ S2).bind fun hi S3=>match v with
 | .lst vs=> .ok (.lst (L2.cutD vs lo hi)) S3
 | _=> .no
theorem D8{e:Expr}{lo hi:Option Expr}{f:FX}{fl fh:D3}{p2 pos:Pos}(he:PX X cl e f)(hl:H_ X cl lo fl)(hh:H_ X cl hi fh):PX X cl (.Subscript e (.Slice lo hi none p2) pos) (Eo f fl fh):=by
 refine⟨(pN (AA.or xI) he.1 hl.1 hh.1).imp fun σ H Q ⟨ρ,S,δ,v,S',E,hf,q⟩=>?_⟩
 obtain⟨v1,S1,h1,h2⟩:=R3.aj hf
 obtain⟨l,S2,h3,h4⟩:=R3.aj h2
 obtain⟨h,S3,h5,h6⟩:=R3.aj h4
 refine⟨ρ,S,δ,v1,S1,E,h1,fun u1 ρ1 H1 p1 w1 r1=>⟨ρ1,S1,δ,l,S2,E.to p1 w1,h3,fun ρ2 H2 p2 w2=>⟨ρ2,S2,δ,h,S3,(E.to p1 w1).to p2 w2,h5,fun ρ3 H3 p3 w3=>?_⟩⟩⟩
 have pA:Pre ρ H ρ3 H3:=p1.trans (p2.trans p3)
 have r1':=r1.pre (p2.trans p3)
 split at h6
 ·rename_i vs
  cases h6
  unfold aZ at r1'
  obtain⟨a,xs,rfl,ls,rs⟩:=r1'
  refine .inr ⟨a,xs,rfl,ls.sq,fun p hp=>q _ ρ3 _ (pA.trans (kM hp)) (w3.same (aP hp)) ?_⟩
  unfold aZ
  refine⟨p,_,rfl, .rN aQ fun ha=>?_,?_⟩
  ·obtain⟨o,ho⟩:=w3.bs p ha
   rw[hp] at ho;cases ho
  ·unfold L2.cutD
   rw[rs.length]
   exact((rs.drop _).take _).pre (kM hp)
 ·cases h6
theorem Hn{f:FX}{fl fh:D3}{δ:DE}{S:aH}{QV:V3→aH→Prop}(h:W3 (f δ S) fun v S1=>W3 (fl δ S1) fun lo S2=>W3 (fh δ S2) fun hi S3=>∃vs,v= .lst vs∧QV (.lst (L2.cutD vs lo hi)) S3):W3 (Eo f fl fh δ S) QV:=
 W3.bind (h.mono fun _ _ h=>W3.bind (h.mono fun _ _ h=>W3.bind (h.mono fun _ _ ⟨vs,e,q⟩=>by subst e;exact W3.ok q)))
end
end L3
end
section
set_option maxRecDepth 100000
set_option maxHeartbeats 4000000
namespace NT
noncomputable def mx(f:Nat→Nat)(w:List Nat):Nat:=(w.map f).foldl max 0
structure BA (f:Nat→Nat) (M:Nat) (bs:List Int):Prop where
 a:∀(z:Nat) (v:Int),bs[z]? =some v→v= -1∨(0≤v∧v+f z≤M)
noncomputable def BB(f:Nat→Nat)(M:Nat)(bs:List Int)(n:Nat):Prop:=∃(z:Nat) (v:Int),z < n∧bs[z]? =some v∧0≤v∧(M:Int)≤v+f z
noncomputable def Up(bs bs':List Int):Prop:=bs'.length=bs.length∧∀(z:Nat) (v:Int),bs[z]? =some v→∃v',bs'[z]? =some v'∧v≤v'
end NT
namespace NT
open PySem PySem.Spec PyProof.Rows L2 L3
structure Gt where
 k:Str
 w:List Nat
 s:Bool
noncomputable def nN(z:Nat):D:= .int z
noncomputable def wN(w:List Nat):D:= .tup (w.map nN)
noncomputable def gN(g:Gt):D:= .tup [.str g.k,wN g.w, .bl g.s]
noncomputable def iN(x:Str × Nat):D:= .tup [.str x.1, .int x.2]
noncomputable def oN(x:Str × List Nat):D:= .tup [.str x.1,wN x.2]
structure Net where
 i:List (Str × Nat)
 g:List Gt
 o:List (Str × List Nat)
noncomputable def Net.d(n:Net):D:= .tup [.lst (n.i.map iN), .lst (n.g.map gN), .lst (n.o.map oN)]
noncomputable def Net.first(n:Net):Nat:=(n.i.map (·.2)).sum
structure Jy (n:Nat) (w:List Nat):Prop where
 ne:w≠[]
 le:w.length≤3
 lt:∀z∈w,z < n
structure Net.Ok (n:Net):Prop where
 i1:1≤n.i.length
 i6:n.i.length≤6
 iw:∀x∈n.i,1≤x.2∧x.2≤3
 is:∀x∈n.i,gp 0 (.str x.1)
 g60:n.g.length≤60
 gw:∀(p:Nat) (g:Gt),n.g[p]? =some g→Jy (n.first+p) g.w
 gs:∀g∈n.g,gp 0 (.str g.k)
 o1:1≤n.o.length
 o6:n.o.length≤6
 ow:∀x∈n.o,Jy (n.first+n.g.length) x.2
 os:∀x∈n.o,gp 0 (.str x.1)
theorem A9:∀{l:List (Str × Nat)},(∀x∈l,1≤x.2∧x.2≤3)→l.length≤(l.map (·.2)).sum∧(l.map (·.2)).sum≤3*l.length
 | [],_=>by simp
 | x ::l,h=>by
   have ih:=A9 (l:=l) fun y hy=>h y (List.mem_cons_of_mem _ hy)
   have:=h x List.mem_cons_self
   rw[List.map_cons,List.sum_cons,List.length_cons]
   omega
inductive Sm:Nat→D→Prop where
 | int (n:Nat) (i:Int):Sm n (.int i)
 | bl (n:Nat) (b:Bool):Sm n (.bl b)
 | str (n:Nat) (s:Str):Sm n (.str s)
 | lst {n:Nat} {ds:List D} (h:∀d∈ds,Sm n d) (hl:ds.length≤1000000):Sm (n+1) (.lst ds)
 | tup {n:Nat} {ds:List D} (h:∀d∈ds,Sm n d) (hl:ds.length≤1000000):Sm (n+1) (.tup ds)
theorem iI{F G:FS}{δ:aw}{d:D}(h:F δ= .ok (.rt d)):eV F G δ= .ok (.rt d):=by unfold eV;rw [h];rfl
theorem jX{m i:Nat}{v:V3}(h:((dS 0 m).map V3.d)[i]? =some v):i < m∧v= .d (.int i):=by
 rw[List.getElem?_map,dS,List.getElem?_map] at h
 cases q:(List.range m)[i]? with
 | none=>rw [q] at h;cases h
 | some j=>
   rw[q] at h;cases h
   obtain⟨q1,q2⟩:=List.getElem?_eq_some_iff.mp q
   rw[List.getElem_range] at q2
   rw[List.length_range] at q1
   subst q2
   exact⟨q1,by simp⟩
theorem Dp(lo:Int)(m:Nat):(dS lo m).length=m:=by rw[dS,List.length_map,List.length_range]
theorem g_(lo:Int)(m:Nat):((dS lo m).map V3.d).length=m:=by rw[List.length_map,Dp]
theorem j1{α:Type}{l:List α}{f:α→D}{i:Nat}{v:V3}(h:((l.map f).map V3.d)[i]? =some v):∃x,l[i]? =some x∧v= .d (f x):=by
 rw[List.getElem?_map,List.getElem?_map] at h
 cases q:l[i]? with
 | none=>rw [q] at h;cases h
 | some x=>rw [q] at h;cases h;exact⟨x,rfl,rfl⟩
theorem ot{α:Type}{l:List α}{f:α→D}{i:Nat}{v:D}(h:(l.map f)[i]? =some v):∃x,l[i]? =some x∧v=f x:=by
 rw[List.getElem?_map] at h
 cases q:l[i]? with
 | none=>rw [q] at h;cases h
 | some x=>rw [q] at h;cases h;exact⟨x,rfl,rfl⟩
theorem d9{α:Type}{t:FT}{c:aw→R Bool}{f:FD}{δ:aw}(a b:α→D):∀{xs:List α},(∀x∈xs,∃δ1,t (a x) δ= .ok δ1∧c δ1= .ok true∧f δ1= .ok (b x))→me t c f δ (xs.map a)= .ok (xs.map b)
 | [],_=>rfl
 | x ::xs,h=>by
   obtain⟨δ1,h1,h2,h3⟩:=h x List.mem_cons_self
   have ih:=d9 (t:=t) (c:=c) (f:=f) (δ:=δ) a b (xs:=xs) fun y hy=>h y (List.mem_cons_of_mem _ hy)
   rw[List.map_cons]
   unfold me
   rw[h1,R.aO,h2,R.aO,if_pos rfl,h3,R.aO,ih]
   rfl
theorem gZ{α:Type}{t:FT}{c:aw→R Bool}{f:FD}{δ:aw}(p:α→Bool)(a b:α→D):∀{xs:List α},(∀x∈xs,∃δ1,t (a x) δ= .ok δ1∧c δ1= .ok (p x)∧(p x=true→f δ1= .ok (b x)))→me t c f δ (xs.map a)= .ok ((xs.filter p).map b)
 | [],_=>rfl
 | x ::xs,h=>by
   obtain⟨δ1,h1,h2,h3⟩:=h x List.mem_cons_self
   have ih:=gZ (t:=t) (c:=c) (f:=f) (δ:=δ) p a b (xs:=xs) fun y hy=>h y (List.mem_cons_of_mem _ hy)
   rw[List.map_cons]
   unfold me
   rw[h1,R.aO,h2,R.aO]
   cases e:p x with
   | true=>rw [if_pos rfl,h3 e,R.aO,ih,List.filter_cons,if_pos e];rfl
   | false=>rw [if_neg (by decide),ih,List.filter_cons,if_neg (by rw[e];decide)]
theorem Dc{n z:Nat}(h:z < n):pF n (z:Int)=some z:=by
 unfold pF
 rw[if_pos (by omega),if_pos (by omega)]
 simp
theorem uM{α:Type}{xs:List α}{z:Nat}{x:α}(h:xs[z]? =some x):nK xs (z:Int)=some x:=by
 have hl:=(List.getElem?_eq_some_iff.mp h).1
 unfold nK
 rw[Dc hl]
 exact h
theorem mC{ds:List D}{z:Nat}{x:D}(h:ds[z]? =some x):c0 (.lst ds) (.int z)= .ok x:=sN (uM h)
end NT
end
section
set_option maxRecDepth 100000
set_option maxHeartbeats 4000000
namespace MT
open PySem PySem.Spec PyProof.Rows L2 L3
noncomputable abbrev M:=Nat→Bool
theorem Gr{N:List Str}{F:FZ}{vs:List V3}{δ:DE}{S:aH}{QV:V3→aH→Prop}(e:bM N vs=δ)(h:W3 (F δ S) fun o S1=>∃δ',o= .nx δ'∧QV (.d .cK) S1):W3 (lL N F vs S) QV:=by
 subst e
 exact W3.bind (h.mono fun _ _ ⟨_,e,q⟩=>by subst e;exact W3.ok q)
noncomputable def iF:Nat→M→Nat
 | 0,_=>0
 | N+1,f=>(if f 0 then 1 else 0)+2*iF N (fun i=>f (i+1))
theorem gm:∀(N:Nat) (f:M) (i:Nat),(iF N f).testBit i=(decide (i < N) && f i)
 | 0,f,i=>by unfold iF;simp
 | N+1,f,0=>by
   unfold iF
   rw[Nat.testBit_zero]
   cases f 0 <;> simp <;> omega
 | N+1,f,i+1=>by
   unfold iF
   rw[Nat.testBit_succ]
   have:((if f 0=true then 1 else 0)+2*iF N fun i=>f (i+1)) / 2=iF N fun i=>f (i+1):=by split <;> omega
   rw[this,gm N _ i]
   simp
theorem kL:∀{N:Nat} {f g:M},(∀i,i < N→f i=g i)→iF N f=iF N g
 | 0,_,_,_=>rfl
 | N+1,f,g,h=>by
   unfold iF
   rw[h 0 (by omega),kL (N:=N) fun i hi=>h (i+1) (by omega)]
theorem x4(N:Nat)(f g:M):iF N f &&& iF N g=iF N fun i=>f i && g i:=by
 refine Nat.eq_of_testBit_eq fun i=>?_
 rw[Nat.testBit_and,gm,gm,gm]
 cases decide (i < N) <;> simp
theorem AU(N:Nat)(f g:M):iF N f ||| iF N g=iF N fun i=>f i || g i:=by
 refine Nat.eq_of_testBit_eq fun i=>?_
 rw[Nat.testBit_or,gm,gm,gm]
 cases decide (i < N) <;> simp
theorem xu:∀(N:Nat) (f g:M),((iF N fun i=>f i || g i:Nat):Int) - (iF N fun i=>f i && g i:Nat)=(iF N fun i=>f i !=g i:Nat)
 | 0,f,g=>rfl
 | N+1,f,g=>by
   have ih:=xu N (fun i=>f (i+1)) (fun i=>g (i+1))
   have e:∀h:M,iF (N+1) h=(if h 0 then 1 else 0)+2*iF N (fun i=>h (i+1)):=fun _=>rfl
   rw[e,e,e]
   generalize iF N (fun i=>f (i+1) || g (i+1))=a at ih ⊢
   generalize iF N (fun i=>f (i+1) && g (i+1))=b at ih ⊢
   generalize iF N (fun i=>f (i+1) !=g (i+1))=c at ih ⊢
   show(((if(f 0 || g 0) then 1 else 0)+2*a:Nat):Int) - ((if(f 0 && g 0) then 1 else 0)+2*b:Nat)=((if(f 0 !=g 0) then 1 else 0)+2*c:Nat)
   cases f 0 <;> cases g 0 <;> simp <;> omega
theorem oM(x y:Nat):Builtin.bitAnd (x:Int) (y:Int)=((x &&& y:Nat):Int):=by
 unfold Builtin.bitAnd
 rw[decide_eq_true (by omega:(0:Int)≤x),decide_eq_true (by omega:(0:Int)≤y)]
 simp
theorem xx(x y:Nat):Builtin.bitOr (x:Int) (y:Int)=((x ||| y:Nat):Int):=by
 unfold Builtin.bitOr Builtin.bitAnd Builtin.bitNot
 rw[decide_eq_false (by omega:¬(0:Int)≤ -(x:Int) - 1),decide_eq_false (by omega:¬(0:Int)≤ -(y:Int) - 1)]
 show -(-(((-(-(x:Int) - 1) - 1).toNat ||| (-(-(y:Int) - 1) - 1).toNat:Nat):Int) - 1) - 1=_
 rw[show(-(-(x:Int) - 1) - 1).toNat=x by omega,show(-(-(y:Int) - 1) - 1).toNat=y by omega]
 omega
noncomputable def mI(N:Nat)(f:M):D:= .int (iF N f:Nat)
theorem tm{N:Nat}{f g:M}(h:∀i,i < N→f i=g i):mI N f=mI N g:=by unfold mI;rw [kL h]
theorem pO(N:Nat)(f g:M):zk (mI N f) (mI N g)= .ok (mI N fun i=>f i && g i):=by
 show R.ok (D.int (Builtin.bitAnd (iF N f:Int) (iF N g:Int)))=_
 rw[oM,x4];rfl
theorem uP(N:Nat)(f g:M):BL (mI N f) (mI N g)= .ok (mI N fun i=>f i || g i):=by
 show R.ok (D.int (Builtin.bitOr (iF N f:Int) (iF N g:Int)))=_
 rw[xx,AU];rfl
theorem xK(N:Nat)(f g:M):zj (mI N f) (mI N g)= .ok (mI N fun i=>f i !=g i):=by
 show R.ok (D.int (Builtin.bitOr (iF N f:Int) (iF N g:Int) - Builtin.bitAnd (iF N f:Int) (iF N g:Int)))=_
 rw[xx,oM,AU,x4,xu];rfl
noncomputable def one:M:=fun _=>true
theorem uI(N:Nat)(f:M):zj (mI N one) (mI N f)= .ok (mI N fun i=>!f i):=by
 rw[xK]
 have:(fun i=>one i !=f i)=fun i=>!f i:=by funext i;unfold one;simp
 rw[this]
theorem AY(N:Nat)(f:M)(c:Bool):(if c then zj (mI N one) (mI N f) else .ok (mI N f))= .ok (mI N fun i=>f i !=c):=by
 cases c with
 | true=>
   rw[if_pos rfl,uI]
   have:(fun i=>!f i)=fun i=>f i !=true:=by funext i;cases f i <;> rfl
   rw[this]
 | false=>
   rw[if_neg (by decide)]
   have:f=fun i=>f i !=false:=by funext i;cases f i <;> rfl
   rw[←this]
theorem tQ{N:Nat}{f:M}:iF N f=0↔∀i,i < N→f i=false:=by
 constructor
 ·intro h i hi
  have:=gm N f i
  rw[h,Nat.zero_testBit,decide_eq_true hi,Bool.true_and] at this
  exact this.symm
 ·intro h
  refine Nat.eq_of_testBit_eq fun i=>?_
  rw[gm,Nat.zero_testBit]
  by_cases q:i < N
  ·rw[h i q];simp
  ·rw[decide_eq_false q];rfl
theorem Hx(N:Nat)(f:M)(n:Nat):(oj (mI N f) (.int n)).bind (fun d=>zk d (.int 1))= .ok (.int (if decide (n < N) && f n then 1 else 0)):=by
 have h1:oj (mI N f) (.int n)= .ok (.int ((iF N f / 2 ^ n:Nat):Int)):=by
  show R.bE (decide ((0:Int)≤n)) (.ok (D.int ((iF N f:Int) / 2 ^ ((n:Int)).toNat)))=_
  rw[cb _ (by omega),Int.toNat_natCast]
  congr 2
 rw[h1,R.aO]
 show R.ok (D.int (Builtin.bitAnd ((iF N f / 2 ^ n:Nat):Int) ((1:Nat):Int)))=_
 rw[oM,Nat.and_one_is_mod,←gm]
 congr 2
 unfold Nat.testBit
 rw[Nat.shiftRight_eq_div_pow,Nat.one_and_eq_mod_two]
 have:iF N f / 2 ^ n % 2=0∨iF N f / 2 ^ n % 2=1:=by omega
 rcases this with q | q <;> rw[q] <;> rfl
noncomputable def bI(b:Bool):D:= .int (if b then 1 else 0)
noncomputable def BJ:List Bool→Nat
 | []=>0
 | b ::bs=>(if b then 1 else 0)+2*BJ bs
theorem A2:∀bs:List Bool,BJ bs=iF bs.length fun i=>bs.getD i false
 | []=>rfl
 | b ::bs=>by
   unfold BJ
   rw[A2 bs]
   rfl
noncomputable def nI(n:Nat):D:= .int (n:Int)
noncomputable def kS:Nat→Str | 0=>Str.ofString "not" | 1=>Str.ofString "and" | 2=>Str.ofString "or" | 3=>Str.ofString "xor" | _=>Str.ofString "vote"
noncomputable def ar:Nat→Nat | 0=>1 | 4=>3 | _=>2
theorem Ax(k:Nat):ar k≤3:=by unfold ar;split <;> omega
noncomputable def gv:Nat→List Bool→Bool
 | 0,[a]=>!a
 | 1,[a,b]=>a && b
 | 2,[a,b]=>a || b
 | 3,[a,b]=>a !=b
 | 4,[a,b,c]=>(a && b) || (a && c) || (b && c)
 | _,_=>false
noncomputable def g6(ws:List M)(n:Nat):M:=ws.getD n fun _=>false
theorem oB{ws:List M}{b:M}{n:Nat}(h:n < ws.length):g6 (ws++[b]) n=g6 ws n:=by
 unfold g6
 rw[List.getD_eq_getElem?_getD,List.getElem?_append_left h,List.getD_eq_getElem?_getD]
theorem pT(ws:List M)(b:M):g6 (ws++[b]) ws.length=b:=by
 unfold g6
 rw[List.getD_eq_getElem?_getD,List.getElem?_append_right (Nat.le_refl _),Nat.sub_self]
 rfl
noncomputable abbrev Gt:=Nat × List Nat × Bool
noncomputable def jS(g:Gt):D:= .tup [.str (kS g.1), .tup (g.2.1.map nI), .bl g.2.2]
noncomputable def ur(n:Nat)(g:Gt):Prop:=g.1≤4∧g.2.1.length=ar g.1∧∀w∈g.2.1,w < n
noncomputable def inD(x:Str × Nat):D:= .tup [.str x.1,nI x.2]
noncomputable def xG(x:Str × List Nat):D:= .tup [.str x.1, .tup (x.2.map nI)]
noncomputable def bH(ins:List (Str × Nat))(gs:List Gt)(os:List (Str × List Nat)):D:= .tup [.lst (ins.map inD), .lst (gs.map jS), .lst (os.map xG)]
noncomputable def gA(ins:List (Str × Nat)):Nat:=(ins.map (·.2)).sum
noncomputable def gF(g:Gt)(ws:List M):M:=fun p=>gv g.1 (g.2.1.map fun n=>g6 ws n p)
noncomputable def fM(bad:List Int)(b:M):Nat→List M→List M
 | 0,ws=>ws
 | n+1,ws=>fM bad b n ws++[fun p=>b p !=bad.contains ((fM bad b n ws).length:Int)]
theorem fY(bad:List Int)(b:M):∀n ws,(fM bad b n ws).length=ws.length+n
 | 0,ws=>rfl
 | n+1,ws=>by unfold fM;rw [List.length_append,fY bad b n ws];rfl
noncomputable def cZ(ins:List (Str × Nat))(bits:List M)(bad:List Int):Nat→List M
 | 0=>[]
 | i+1=>match ins[i]?,bits[i]? with | some x,some b=>fM bad b x.2 (cZ ins bits bad i) | _,_=>cZ ins bits bad i
theorem lZ{ins:List (Str × Nat)}{bits:List M}{bad:List Int}(hb:bits.length=ins.length):∀i,i≤ins.length→(cZ ins bits bad i).length=gA (ins.take i)
 | 0,_=>rfl
 | i+1,hi=>by
   have h1:ins[i]? =some ins[i]:=List.getElem?_eq_getElem (by omega)
   have h2:bits[i]? =some bits[i]:=List.getElem?_eq_getElem (by omega)
   unfold cZ
   rw[h1,h2]
   show(fM bad bits[i] ins[i].2 (cZ ins bits bad i)).length=_
   rw[fY,lZ hb i (by omega),List.take_add_one,h1]
   unfold gA
   simp only[Option.toList_some,List.map_append,List.sum_append,List.map_cons,List.map_nil,List.sum_cons,List.sum_nil]
   omega
noncomputable def kI(gs:List Gt)(turned:List Int)(w0:List M):Nat→List M
 | 0=>w0
 | i+1=>match gs[i]? with | some g=>kI gs turned w0 i++[fun p=>gF g (kI gs turned w0 i) p !=turned.contains (i:Int)] | none=>kI gs turned w0 i
theorem lU{gs:List Gt}{turned:List Int}{w0:List M}:∀i,i≤gs.length→(kI gs turned w0 i).length=w0.length+i
 | 0,_=>rfl
 | i+1,hi=>by
   have h1:gs[i]? =some gs[i]:=List.getElem?_eq_getElem (by omega)
   unfold kI
   rw[h1]
   show(kI gs turned w0 i++[_]).length=_
   rw[List.length_append,lU i (by omega)]
   rfl
structure jb (ins:List (Str × Nat)) (gs:List Gt) (os:List (Str × List Nat)):Prop where
 hi:ins.length < 100
 hw:∀x∈ins,x.2 < 100
 hg:gs.length < 1000
 g:∀(i:Nat) (x:Gt),gs[i]? =some x→ur (gA ins+i) x
 ho:os.length < 1000
 o:∀x∈os,x.2.length < 1000∧∀w∈x.2,w < gA ins+gs.length
noncomputable def lD(ins:List (Str × Nat))(gs:List Gt)(bits:List M)(turned bad:List Int):List M:=kI gs turned (cZ ins bits bad ins.length) gs.length
theorem vC:∀{l:List (Str × Nat)},(∀x∈l,x.2 < 100)→gA l≤100*l.length
 | [],_=>by simp [gA]
 | x ::l,h=>by
   have ih:=vC (l:=l) fun y hy=>h y (List.mem_cons_of_mem _ hy)
   have:=h x List.mem_cons_self
   unfold gA at ih ⊢
   rw[List.map_cons,List.sum_cons,List.length_cons]
   omega
theorem uE{ins:List (Str × Nat)}{gs:List Gt}{bits:List M}{turned bad:List Int}(hb:bits.length=ins.length):(lD ins gs bits turned bad).length=gA ins+gs.length:=by unfold lD;rw [lU _ (Nat.le_refl _),lZ hb _ (Nat.le_refl _),List.take_length]
noncomputable def tell(ws:List M)(x:Str × List Nat):List M:=x.2.map (g6 ws)
noncomputable def DK:List Bool→Bool × Bool
 | [a]=>(!a,a)
 | [a,b]=>(!(a || b),a && b)
 | [a,b,c]=>let v:=(a && b) || (a && c) || (b && c);(!v,v)
 | _=>(false,false)
noncomputable def brk(safe:Bool)(x y:Bool × Bool):Bool:=if safe then(x.1 && y.2) || (x.2 && y.1) else(x.1 !=y.1) || (x.2 !=y.2)
theorem sR(i:Int)(ps:List Int):ue (.int i) (.tup (ps.map .int))= .ok (.bl (ps.contains i)):=by
 show((match ints? (ps.map D.int) with | some ss=>R.ok (ss.contains i) | none=> .no)).bind (fun b=>R.ok (D.bl b))=_
 rw[L2.ints_map];rfl
theorem oq{ds:List D}{i:Nat}{v:V3}(h:((cX ds).map V3.d)[i]? =some v):∃d,ds[i]? =some d∧v= .d (.tup [.int i,d]):=by
 rw[List.getElem?_map,cX,List.getElem?_map,List.getElem?_zipIdx] at h
 cases q:ds[i]? with
 | none=>rw [q] at h;cases h
 | some d=>
   rw[q] at h
   simp at h
   exact⟨d,rfl,h.symm⟩
theorem rL{c:aw→R Bool}{f g:FD}{δ:aw}{b:Bool}{r:R D}(h:c δ= .ok b)(h2:(if b then f δ else g δ)=r):xO c f g δ=r:=by unfold xO;rw [h,R.aO];exact h2
theorem eg(S:aH)(x y:SO):(S++[x]).set S.length y=S++[y]:=by
 rw[List.set_append_right _ _ (Nat.le_refl _),Nat.sub_self];rfl
theorem bG(S:aH)(x:SO):(S++[x])[S.length]? =some x:=by rw[List.getElem?_append_right (Nat.le_refl _),Nat.sub_self];rfl
theorem E_{N:Nat}{ws:List M}{n:Nat}(h:n < ws.length):c0 (.lst (ws.map (mI N))) (nI n)= .ok (mI N (g6 ws n)):=by
 refine NT.mC ?_
 rw[List.getElem?_map,List.getElem?_eq_getElem h]
 unfold g6
 rw[List.getD_eq_getElem?_getD,List.getElem?_eq_getElem h]
 rfl
end MT
namespace MT
open PySem PySem.Spec PyProof.Rows L2 L3
theorem lO{α:Type}{t:FG}{body:FZ}{S:aH}(g:α→V3)(f:α→Option V3)(E:DE→Prop):∀{xs:List α} {δ:DE},E δ→
 (∀x∈xs,∀δ,E δ→∃δ1,t (g x) δ=some δ1∧W3 (body δ1 S) fun o S1=>S1=S∧(match f x with | some v=>o= .rt v | none=>∃δ2,o= .nx δ2∧E δ2))→
 W3 (iS t body (xs.map g) δ S) fun o S1=>S1=S∧(match xs.findSome? f with | some v=>o= .rt v | none=>∃δ2,o= .nx δ2∧E δ2)
 | [],δ,h0,_=>W3.ok ⟨rfl,δ,rfl,h0⟩
 | x ::xs,δ,h0,hs=>by
   obtain⟨δ1,e1,o,S1,e2,rfl,h2⟩:=hs x List.mem_cons_self δ h0
   rw[List.map_cons]
   unfold iS
   rw[e1]
   refine W3.bind ⟨_,_,e2,?_⟩
   rw[List.findSome?_cons]
   cases hf:f x with
   | some v=>rw [hf] at h2;subst h2;exact W3.ok ⟨rfl,rfl⟩
   | none=>
     rw[hf] at h2
     obtain⟨δ2,rfl,h2⟩:=h2
     exact lO g f E h2 fun y hy=>hs y (List.mem_cons_of_mem _ hy)
noncomputable def gR:List Nat→Nat→List (List Nat)
 | _,0=>[[]]
 | ps,s+1=>(List.range ps.length).flatMap fun a=>(gR (ps.drop (a+1)) s).map (ps.getD a 0 ::·)
theorem jw:∀{s:Nat} {ps T:List Nat},T∈gR ps s→T.length=s∧∀x∈T,x∈ps
 | 0,ps,T,h=>by unfold gR at h;rw [List.mem_singleton.mp h];simp
 | s+1,ps,T,h=>by
   unfold gR at h
   obtain⟨a,ha,h⟩:=List.mem_flatMap.mp h
   obtain⟨R,hR,rfl⟩:=List.mem_map.mp h
   rw[List.mem_range] at ha
   obtain⟨h1,h2⟩:=jw hR
   refine⟨by simp [h1],fun x hx=>?_⟩
   rcases List.mem_cons.mp hx with rfl | hx
   ·rw[List.getD_eq_getElem?_getD,List.getElem?_eq_getElem ha];exact List.getElem_mem ha
   ·exact List.mem_of_mem_drop (h2 x hx)
theorem wz:∀{l:List Nat} {m:Nat},(∀x∈l,x≤m)→l.sum≤l.length*m
 | [],_,_=>by simp
 | x ::l,m,h=>by
   have:=wz (l:=l) (m:=m) fun y hy=>h y (List.mem_cons_of_mem _ hy)
   have h0:=h x List.mem_cons_self
   rw[List.sum_cons,List.length_cons,Nat.add_mul]
   omega
theorem oC:∀{s:Nat} {ps:List Nat} {n:Nat},ps.length≤n→(gR ps s).length≤n ^ s
 | 0,ps,n,_=>by unfold gR;simp
 | s+1,ps,n,h=>by
   unfold gR
   rw[List.length_flatMap,Nat.pow_succ]
   refine Nat.le_trans (wz (m:=n ^ s) fun x hx=>?_) ?_
   ·obtain⟨a,_,rfl⟩:=List.mem_map.mp hx
    rw[List.length_map]
    exact oC (by rw[List.length_drop];omega)
   ·rw[List.length_map,List.length_range,Nat.mul_comm]
    exact Nat.mul_le_mul_left _ h
theorem Ed{F G:FZ}{δ:DE}{S:aH}{QO:Ou→aH→Prop}(h:W3 (F δ S) fun o S1=>match o with | .nx δ1=>W3 (G δ1 S1) QO | .rt v=>QO (.rt v) S1):W3 (bu F G δ S) QO:=
 W3.bind (h.mono fun o S1 q=>by cases o with | nx δ1=>exact q | rt v=>exact W3.ok q)
end MT
end
section
set_option Elab.async false
set_option linter.all false
set_option maxRecDepth 100000
set_option maxHeartbeats 4000000
namespace K26
open PySem PySem.Spec PyProof.Rows L2 L3
noncomputable def top(i:Nat):Stmt:=PySem.Challenge.pw_bearfaults_k26_whole_breaking_by_runs.main.body.getD i (.Pass ⟨0,0,0,0⟩)
structure Tp (K:PySem.W.Frag) (mg:Str→Option Value) (cl:Nat→Addr):Prop where
 z_enumerate:mg (Str.ofString "enumerate")=none
 z_range:mg (Str.ofString "range")=none
 z_len:mg (Str.ofString "len")=none
 z_tuple:mg (Str.ofString "tuple")=none
 z_reversed:mg (Str.ofString "reversed")=none
 z_all:mg (Str.ofString "all")=none
 z_zip:mg (Str.ofString "zip")=none
 z_any:mg (Str.ofString "any")=none
 z_min:mg (Str.ofString "min")=none
 z_list:mg (Str.ofString "list")=none
 z_sorted:mg (Str.ofString "sorted")=none
 C_Bench:sW K (cl 0)
 N_Bench_net:cT K (cl 0) (Str.ofString "net")
 N_Bench_many_inputs:cT K (cl 0) (Str.ofString "many_inputs")
 N_Bench_full:cT K (cl 0) (Str.ofString "full")
 N_Bench_in_masks:cT K (cl 0) (Str.ofString "in_masks")
 M_Bench:mg (Str.ofString "Bench")=some (.ref (cl 0))
 C_Trial:sW K (cl 1)
 N_Trial_bench:cT K (cl 1) (Str.ofString "bench")
 N_Trial_plain:cT K (cl 1) (Str.ofString "plain")
 N_Trial_unsure:cT K (cl 1) (Str.ofString "unsure")
 M_Trial:mg (Str.ofString "Trial")=some (.ref (cl 1))
noncomputable abbrev eA:Stmt:=top 2
noncomputable abbrev qH:List Str:=[(Str.ofString "masks")]
noncomputable def vp:{b:List Stmt // ao eA=b}:=by
 have e:ao eA=ao eA:=rfl
 conv at e=>rhs;whnf
 exact⟨_,e⟩
noncomputable def p_:{b:Scope // ag eA=b}:=by
 have e:ag eA=ag eA:=rfl
 conv at e=>rhs;whnf
 exact⟨_,e⟩
theorem za:ba qH [(Str.ofString "masks")] p_.1:=⟨rfl,rfl,rfl,by decide+kernel,rfl,by decide+kernel,by decide+kernel⟩
noncomputable def qT:FS:=(eY (e2 BL (e2 BL (e2 zk (e2 c0 (ah 0) (eC (.int 0))) (e2 c0 (ah 0) (eC (.int 1)))) (e2 zk (e2 c0 (ah 0) (eC (.int 0))) (e2 c0 (ah 0) (eC (.int 2))))) (e2 zk (e2 c0 (ah 0) (eC (.int 1))) (e2 c0 (ah 0) (eC (.int 2))))))
noncomputable def fu:List D→R D:=mW qH qT
theorem yy{P:Program}{w:World}{K:PySem.W.Frag}{mg:Str→Option Value}{base:Heap}{cl:Nat→Addr}(T:Tp K mg cl)(h:Def K mg (Str.ofString "vote_of") eA):Callee P w K mg base 1 (Str.ofString "vote_of") 1 fu:=by
 obtain⟨f,fd,F,hm⟩:=h
 exact⟨f,fd,_,c9 (k:=0) vp.2 p_.2 F za (fun cdv A outer s H E hr=>(bx (bZ (aM uR (aM uR (aM uz (aU (aa 0) ak (fun _ _=>rfl)) (aU (aa 0) ak (fun _ _=>rfl))) (aM uz (aU (aa 0) ak (fun _ _=>rfl)) (aU (aa 0) ak (fun _ _=>rfl)))) (aM uz (aU (aa 0) ak (fun _ _=>rfl)) (aU (aa 0) ak (fun _ _=>rfl))))))),hm,F.kp,F.binds fun _ _ _ _ _ _ us hl=>match us,hl with | [_],_=>rfl⟩
noncomputable abbrev c_:Stmt:=top 3
noncomputable abbrev kj:List Str:=[(Str.ofString "kind"),(Str.ofString "masks"),(Str.ofString "full")]
noncomputable def r6:{b:List Stmt // ao c_=b}:=by
 have e:ao c_=ao c_:=rfl
 conv at e=>rhs;whnf
 exact⟨_,e⟩
noncomputable def mB:{b:Scope // ag c_=b}:=by
 have e:ag c_=ag c_:=rfl
 conv at e=>rhs;whnf
 exact⟨_,e⟩
theorem uB:ba kj [(Str.ofString "kind"),(Str.ofString "masks"),(Str.ofString "full")] mB.1:=⟨rfl,rfl,rfl,by decide+kernel,rfl,by decide+kernel,by decide+kernel⟩
noncomputable def nJ:FS:=(eV (qo (b2 jl (ah 0) (eC (.str (Str.ofString "not")))) (eY (e2 zj (ah 2) (e2 c0 (ah 1) (eC (.int 0))))) jU) (eV (qo (b2 jl (ah 0) (eC (.str (Str.ofString "and")))) (eY (e2 zk (e2 c0 (ah 1) (eC (.int 0))) (e2 c0 (ah 1) (eC (.int 1))))) jU) (eV (qo (b2 jl (ah 0) (eC (.str (Str.ofString "or")))) (eY (e2 BL (e2 c0 (ah 1) (eC (.int 0))) (e2 c0 (ah 1) (eC (.int 1))))) jU) (eV (qo (b2 jl (ah 0) (eC (.str (Str.ofString "xor")))) (eY (e2 zj (e2 c0 (ah 1) (eC (.int 0))) (e2 c0 (ah 1) (eC (.int 1))))) jU) (eY (aX fu (ay (ah 1) aV)))))))
noncomputable def fj:List D→R D:=mW kj nJ
theorem u0{P:Program}{w:World}{K:PySem.W.Frag}{mg:Str→Option Value}{base:Heap}{cl:Nat→Addr}(T:Tp K mg cl)(h:Def K mg (Str.ofString "gate_mask") c_)(C_vote_of:Callee P w K mg base 1 (Str.ofString "vote_of") 1 fu):Callee P w K mg base 2 (Str.ofString "gate_mask") 3 fj:=by
 obtain⟨f,fd,F,hm⟩:=h
 exact⟨f,fd,_,c9 (k:=1) r6.2 mB.2 F uB (fun cdv A outer s H E hr=>(bX (iQ (bB (ja hr.units) (aa 0) bR (cv _)) (bx (bZ (aM ug (aa 2) (aU (aa 1) ak (fun _ _=>rfl))))) gu) (bX (iQ (bB (ja hr.units) (aa 0) bR (cv _)) (bx (bZ (aM uz (aU (aa 1) ak (fun _ _=>rfl)) (aU (aa 1) ak (fun _ _=>rfl))))) gu) (bX (iQ (bB (ja hr.units) (aa 0) bR (cv _)) (bx (bZ (aM uR (aU (aa 1) ak (fun _ _=>rfl)) (aU (aa 1) ak (fun _ _=>rfl))))) gu) (bX (iQ (bB (ja hr.units) (aa 0) bR (cv _)) (bx (bZ (aM ug (aU (aa 1) ak (fun _ _=>rfl)) (aU (aa 1) ak (fun _ _=>rfl))))) gu) (bx (bZ (b_ C_vote_of hr (by decide) rfl (af (aa 1) aq) (a_ cA))))))))),hm,F.kp,F.binds fun _ _ _ _ _ _ us hl=>match us,hl with | [_,_,_],_=>rfl⟩
noncomputable abbrev bS:Stmt:=top 4
noncomputable abbrev eQ:List Str:=[(Str.ofString "ins"),(Str.ofString "in_masks"),(Str.ofString "full"),(Str.ofString "bad"),(Str.ofString "wires"),(Str.ofString "place"),(Str.ofString "mask"),(Str.ofString "figure")]
noncomputable def mY:{b:List Stmt // ao bS=b}:=by
 have e:ao bS=ao bS:=rfl
 conv at e=>rhs;whnf
 exact⟨_,e⟩
noncomputable def jc:{b:Scope // ag bS=b}:=by
 have e:ag bS=ag bS:=rfl
 conv at e=>rhs;whnf
 exact⟨_,e⟩
theorem dP:ba eQ [(Str.ofString "ins"),(Str.ofString "in_masks"),(Str.ofString "full"),(Str.ofString "bad")] jc.1:=⟨rfl,rfl,rfl,by decide+kernel,rfl,by decide+kernel,by decide+kernel⟩
noncomputable def fH:FZ:=(lT 4 (xT (xO (b2 ue (aX eP (ay (ah 4) aV)) (ah 3)) (e2 zj (ah 2) (ah 6)) (ah 6))))
noncomputable def iK:FZ:=(i0 (iP (iZ (e2 c0 (e2 c0 (ah 0) (ah 5)) (eC (.int 1))))) (iG 7) fH)
noncomputable def gJ:FZ:=(bu (cy 4 (lH (dN aV))) (bu (i0 (iP (xj (ah 1))) (uT 2 (oF (iG 5) (oF (iG 6) u6))) iK) (gG (bK 4))))
noncomputable def cS:List V3→aH→R3 V3:=lL eQ gJ
noncomputable def m5:List V3→aH→R3 V3:=mP eQ gJ
theorem n4{P:Program}{w:World}{K:PySem.W.Frag}{mg:Str→Option Value}{base:Heap}{cl:Nat→Addr}(T:Tp K mg cl)(h:Def K mg (Str.ofString "in_wire_masks") bS):aF P w K mg base cl 1 (Str.ofString "in_wire_masks") 4 cS:=by
 obtain⟨f,fd,F,hm⟩:=h
 exact⟨f,fd,_,cj (k:=0) mY.2 jc.2 F dP (fun cdv A outer s H E hr=>(au (bq dP.nd rfl (Or.inl rfl) (fW (bO aq))) (au (d6 PassesOwn.never rfl (dg (vy (aa 1) rfl T.z_enumerate)) (iL rfl (cq (aW dP.nd rfl (Or.inl rfl)) (cq (aW dP.nd rfl (Or.inl rfl)) gB))) (aK (d6 PassesOwn.never rfl (dg (eZ (aU (aU (aa 0) (aa 5) (fun _ _=>rfl)) ak (fun _ _=>rfl)) rfl T.z_range)) (aW dP.nd rfl (Or.inl rfl)) (aK (iV rfl (Or.inl rfl) (dc (vV (bB EW (br e_ rfl T.z_len PySem.boot_len (af (aa 4) aq)) (aa 3) (by with_unfolding_all rfl)) (aM ug (aa 2) (aa 6)) (aa 6)))))))) (aK (cN (aL 4)))))),hm,F.kp,F.binds fun _ _ _ _ _ _ us hl=>match us,hl with | [_,_,_,_],_=>rfl⟩
noncomputable abbrev dH:Stmt:=top 5
noncomputable abbrev lA:List Str:=[(Str.ofString "wires"),(Str.ofString "numbers")]
noncomputable def t4:{b:List Stmt // ao dH=b}:=by
 have e:ao dH=ao dH:=rfl
 conv at e=>rhs;whnf
 exact⟨_,e⟩
noncomputable def j_:{b:Scope // ag dH=b}:=by
 have e:ag dH=ag dH:=rfl
 conv at e=>rhs;whnf
 exact⟨_,e⟩
theorem vw:ba lA [(Str.ofString "wires"),(Str.ofString "numbers")] j_.1:=⟨rfl,rfl,rfl,by decide+kernel,rfl,by decide+kernel,by decide+kernel⟩
noncomputable def p6:FS:=(eY (aX fI (ay (eNew (eK (dz (ah 1)) (bb 0) qh (e2 c0 (ah 1) (ah 0)) [(Str.ofString "number")] [0])) aV)))
noncomputable def d_:List D→R D:=mW lA p6
theorem vc{P:Program}{w:World}{K:PySem.W.Frag}{mg:Str→Option Value}{base:Heap}{cl:Nat→Addr}(T:Tp K mg cl)(h:Def K mg (Str.ofString "masks_at") dH):Callee P w K mg base 1 (Str.ofString "masks_at") 2 d_:=by
 obtain⟨f,fd,F,hm⟩:=h
 exact⟨f,fd,_,c9 (k:=0) t4.2 j_.2 F vw (fun cdv A outer s H E hr=>(bx (bZ (jo mE rfl T.z_tuple PyProof.Rows.boot_tuple (af (bV (dM rfl (ck.of (own:=[(Str.ofString "number")]) (kp:=[0]) (kn:=[(Str.ofString "wires")]) (sc:=j_.1) (N:=lA) rfl rfl (by decide+kernel)) (cw (aa 1)) (fun _ _ _=>(bz (show List.Nodup [(Str.ofString "number"),(Str.ofString "wires")] from by decide+kernel) rfl (Or.inl rfl))) (fun _ _ _=>gd) (fun _ _ _=>(aU (aa 1) (aa 0) (fun _ _=>rfl))))) aq))))),hm,F.kp,F.binds fun _ _ _ _ _ _ us hl=>match us,hl with | [_,_],_=>rfl⟩
noncomputable abbrev cP:Stmt:=top 6
noncomputable abbrev gO:List Str:=[(Str.ofString "net"),(Str.ofString "in_masks"),(Str.ofString "full"),(Str.ofString "turned"),(Str.ofString "bad"),(Str.ofString "wires"),(Str.ofString "place"),(Str.ofString "gate"),(Str.ofString "mask")]
noncomputable def qj:{b:List Stmt // ao cP=b}:=by
 have e:ao cP=ao cP:=rfl
 conv at e=>rhs;whnf
 exact⟨_,e⟩
noncomputable def k5:{b:Scope // ag cP=b}:=by
 have e:ag cP=ag cP:=rfl
 conv at e=>rhs;whnf
 exact⟨_,e⟩
theorem fL:ba gO [(Str.ofString "net"),(Str.ofString "in_masks"),(Str.ofString "full"),(Str.ofString "turned"),(Str.ofString "bad")] k5.1:=⟨rfl,rfl,rfl,by decide+kernel,rfl,by decide+kernel,by decide+kernel⟩
noncomputable def hV:FZ:=(bu (cy 8 (xT (aX fj (ay (e2 c0 (ah 7) (eC (.int 0))) (ay (aX d_ (ay (ah 5) (ay (e2 c0 (ah 7) (eC (.int 1))) aV))) (ay (ah 2) aV)))))) (lT 5 (xP (xO (b2 ue (ah 6) (ah 3)) (e2 zj (ah 2) (ah 8)) (ah 8)))))
noncomputable def jv:FZ:=(bu (cy 5 (bQ cS (av (xP (e2 c0 (ah 0) (eC (.int 0)))) (av (xP (ah 1)) (av (xP (ah 2)) (av (xP (ah 4)) bU)))))) (bu (i0 (iP (eL (e2 c0 (ah 0) (eC (.int 1))))) (uT 2 (oF (iG 6) (oF (iG 7) u6))) hV) (gG (bK 5))))
noncomputable def kR:List V3→aH→R3 V3:=lL gO jv
noncomputable def dm:List V3→aH→R3 V3:=mP gO jv
theorem sJ{P:Program}{w:World}{K:PySem.W.Frag}{mg:Str→Option Value}{base:Heap}{cl:Nat→Addr}(T:Tp K mg cl)(h:Def K mg (Str.ofString "wire_masks") cP)(C_masks_at:Callee P w K mg base 1 (Str.ofString "masks_at") 2 d_)(C_gate_mask:Callee P w K mg base 2 (Str.ofString "gate_mask") 3 fj)(XK_in_wire_masks:aF P w K mg base cl 1 (Str.ofString "in_wire_masks") 4 cS):aF P w K mg base cl 3 (Str.ofString "wire_masks") 5 kR:=by
 obtain⟨f,fd,F,hm⟩:=h
 exact⟨f,fd,_,cj (k:=2) qj.2 k5.2 F fL (fun cdv A outer s H E hr=>(au (bq fL.nd rfl (Or.inl rfl) (bg XK_in_wire_masks hr (by decide) rfl (ab (ai (aU (aa 0) ak (fun _ _=>rfl))) (ab (ai (aa 1)) (ab (ai (aa 2)) (ab (ai (aa 4)) aD)))) (ae (ae (ae (ae aG)))))) (au (d6 PassesOwn.never rfl (dg (jh (aU (aa 0) ak (fun _ _=>rfl)) rfl T.z_enumerate)) (iL rfl (cq (aW fL.nd rfl (Or.inl rfl)) (cq (aW fL.nd rfl (Or.inl rfl)) gB))) (au (bq fL.nd rfl (Or.inl rfl) (dc (b_ C_gate_mask hr (by decide) rfl (af (aU (aa 7) ak (fun _ _=>rfl)) (af (b_ C_masks_at hr (by decide) rfl (af (aa 5) (af (aU (aa 7) ak (fun _ _=>rfl)) aq)) (a_ (a_ cA))) (af (aa 2) aq))) (a_ (a_ (a_ cA)))))) (aK (iV rfl (Or.inl rfl) (ai (vV (bB EW (aa 6) (aa 3) (by with_unfolding_all rfl)) (aM ug (aa 2) (aa 8)) (aa 8))))))) (aK (cN (aL 5)))))),hm,F.kp,F.binds fun _ _ _ _ _ _ us hl=>match us,hl with | [_,_,_,_,_],_=>rfl⟩
noncomputable abbrev de:Stmt:=top 7
noncomputable abbrev gC:List Str:=[(Str.ofString "net"),(Str.ofString "wires")]
noncomputable def rY:{b:List Stmt // ao de=b}:=by
 have e:ao de=ao de:=rfl
 conv at e=>rhs;whnf
 exact⟨_,e⟩
noncomputable def jz:{b:Scope // ag de=b}:=by
 have e:ag de=ag de:=rfl
 conv at e=>rhs;whnf
 exact⟨_,e⟩
theorem uu:ba gC [(Str.ofString "net"),(Str.ofString "wires")] jz.1:=⟨rfl,rfl,rfl,by decide+kernel,rfl,by decide+kernel,by decide+kernel⟩
noncomputable def kE:FZ:=(gG (lH (eK (dz (e2 c0 (ah 0) (eC (.int 2)))) (gz 2 (cI (bb 0) (cI (bb 1) gx))) qh (aX d_ (ay (ah 2) (ay (ah 1) aV))) [(Str.ofString "name"),(Str.ofString "numbers")] [1])))
noncomputable def mK:List V3→aH→R3 V3:=lL gC kE
noncomputable def dJ:List V3→aH→R3 V3:=mP gC kE
theorem uh{P:Program}{w:World}{K:PySem.W.Frag}{mg:Str→Option Value}{base:Heap}{cl:Nat→Addr}(T:Tp K mg cl)(h:Def K mg (Str.ofString "out_masks") de)(C_masks_at:Callee P w K mg base 1 (Str.ofString "masks_at") 2 d_):aF P w K mg base cl 2 (Str.ofString "out_masks") 2 mK:=by
 obtain⟨f,fd,F,hm⟩:=h
 exact⟨f,fd,_,cj (k:=1) rY.2 jz.2 F uu (fun cdv A outer s H E hr=>(aK (cN (fW (dM rfl (ck.of (own:=[(Str.ofString "name"),(Str.ofString "numbers")]) (kp:=[1]) (kn:=[(Str.ofString "wires")]) (sc:=jz.1) (N:=gC) rfl rfl (by decide+kernel)) (cw (aU (aa 0) ak (fun _ _=>rfl))) (fun _ _ _=>(mO rfl (d4 (bz (show List.Nodup [(Str.ofString "name"),(Str.ofString "numbers"),(Str.ofString "wires")] from by decide+kernel) rfl (Or.inl rfl)) (d4 (bz (show List.Nodup [(Str.ofString "name"),(Str.ofString "numbers"),(Str.ofString "wires")] from by decide+kernel) rfl (Or.inl rfl)) kO)))) (fun _ _ _=>gd) (fun _ _ _=>(b_ C_masks_at hr (by decide) rfl (af (aa 2) (af (aa 1) aq)) (a_ (a_ cA))))))))),hm,F.kp,F.binds fun _ _ _ _ _ _ us hl=>match us,hl with | [_,_],_=>rfl⟩
noncomputable abbrev l8:Stmt:=top 8
noncomputable abbrev yj:List Str:=[(Str.ofString "net"),(Str.ofString "bits"),(Str.ofString "turned"),(Str.ofString "bad")]
noncomputable def EG:{b:List Stmt // ao l8=b}:=by
 have e:ao l8=ao l8:=rfl
 conv at e=>rhs;whnf
 exact⟨_,e⟩
noncomputable def z6:{b:Scope // ag l8=b}:=by
 have e:ag l8=ag l8:=rfl
 conv at e=>rhs;whnf
 exact⟨_,e⟩
theorem G9:ba yj [(Str.ofString "net"),(Str.ofString "bits"),(Str.ofString "turned"),(Str.ofString "bad")] z6.1:=⟨rfl,rfl,rfl,by decide+kernel,rfl,by decide+kernel,by decide+kernel⟩
noncomputable def AV:FZ:=(gG (bQ dJ (av (xP (ah 0)) (av (bQ dm (av (xP (ah 0)) (av (xP (ah 1)) (av (xP (eC (.int 1))) (av (xP (ah 2)) (av (xP (ah 3)) bU)))))) bU))))
noncomputable def zZ:List V3→aH→R3 V3:=lL yj AV
noncomputable def m8:List V3→aH→R3 V3:=mP yj AV
theorem Gs{P:Program}{w:World}{K:PySem.W.Frag}{mg:Str→Option Value}{base:Heap}{cl:Nat→Addr}(T:Tp K mg cl)(h:Def K mg (Str.ofString "run") l8)(XP_out_masks:aF P w K mg base cl 2 (Str.ofString "out_masks") 2 dJ)(XP_wire_masks:aF P w K mg base cl 3 (Str.ofString "wire_masks") 5 dm):aF P w K mg base cl 4 (Str.ofString "run") 4 zZ:=by
 obtain⟨f,fd,F,hm⟩:=h
 exact⟨f,fd,_,cj (k:=3) EG.2 z6.2 F G9 (fun cdv A outer s H E hr=>(aK (cN (bg XP_out_masks hr (by decide) rfl (ab (ai (aa 0)) (ab (bg XP_wire_masks hr (by decide) rfl (ab (ai (aa 0)) (ab (ai (aa 1)) (ab (ai ak) (ab (ai (aa 2)) (ab (ai (aa 3)) aD))))) (ae (ae (ae (ae (ae aG)))))) aD)) (ae (ae aG)))))),hm,F.kp,F.binds fun _ _ _ _ _ _ us hl=>match us,hl with | [_,_,_,_],_=>rfl⟩
noncomputable abbrev eu:Stmt:=top 9
noncomputable abbrev kP:List Str:=[(Str.ofString "masks"),(Str.ofString "full"),(Str.ofString "ones")]
noncomputable def wx:{b:List Stmt // ao eu=b}:=by
 have e:ao eu=ao eu:=rfl
 conv at e=>rhs;whnf
 exact⟨_,e⟩
noncomputable def oU:{b:Scope // ag eu=b}:=by
 have e:ag eu=ag eu:=rfl
 conv at e=>rhs;whnf
 exact⟨_,e⟩
theorem rB:ba kP [(Str.ofString "masks"),(Str.ofString "full")] oU.1:=⟨rfl,rfl,rfl,by decide+kernel,rfl,by decide+kernel,by decide+kernel⟩
noncomputable def rD:FS:=(eV (qo (b2 jl (aX eP (ay (ah 0) aV)) (eC (.int 2))) (eY (eW (ay (e2 zj (ah 1) (e2 BL (e2 c0 (ah 0) (eC (.int 0))) (e2 c0 (ah 0) (eC (.int 1))))) (ay (e2 zk (e2 c0 (ah 0) (eC (.int 0))) (e2 c0 (ah 0) (eC (.int 1)))) aV)))) jU) (eV (jE 2 (xO (b2 jl (aX eP (ay (ah 0) aV)) (eC (.int 1))) (e2 c0 (ah 0) (eC (.int 0))) (aX fu (ay (ah 0) aV)))) (eY (eW (ay (e2 zj (ah 1) (ah 2)) (ay (ah 2) aV))))))
noncomputable def fg:List D→R D:=mW kP rD
theorem yo{P:Program}{w:World}{K:PySem.W.Frag}{mg:Str→Option Value}{base:Heap}{cl:Nat→Addr}(T:Tp K mg cl)(h:Def K mg (Str.ofString "reading") eu)(C_vote_of:Callee P w K mg base 1 (Str.ofString "vote_of") 1 fu):Callee P w K mg base 2 (Str.ofString "reading") 2 fg:=by
 obtain⟨f,fd,F,hm⟩:=h
 exact⟨f,fd,_,c9 (k:=1) wx.2 oU.2 F rB (fun cdv A outer s H E hr=>(bX (iQ (bB (ja hr.units) (br e_ rfl T.z_len PySem.boot_len (af (aa 0) aq)) ak (cv _)) (bx (bZ (cY (af (aM ug (aa 1) (aM uR (aU (aa 0) ak (fun _ _=>rfl)) (aU (aa 0) ak (fun _ _=>rfl)))) (af (aM uz (aU (aa 0) ak (fun _ _=>rfl)) (aU (aa 0) ak (fun _ _=>rfl))) aq))))) gu) (bX (iA rB.nd rfl (Or.inl rfl) (vV (bB (ja hr.units) (br e_ rfl T.z_len PySem.boot_len (af (aa 0) aq)) ak (cv _)) (aU (aa 0) ak (fun _ _=>rfl)) (b_ C_vote_of hr (by decide) rfl (af (aa 0) aq) (a_ cA)))) (bx (bZ (cY (af (aM ug (aa 1) (aa 2)) (af (aa 2) aq)))))))),hm,F.kp,F.binds fun _ _ _ _ _ _ us hl=>match us,hl with | [_,_],_=>rfl⟩
noncomputable abbrev fN:Stmt:=top 10
noncomputable abbrev tO:List Str:=[(Str.ofString "mask"),(Str.ofString "number")]
noncomputable def zh:{b:List Stmt // ao fN=b}:=by
 have e:ao fN=ao fN:=rfl
 conv at e=>rhs;whnf
 exact⟨_,e⟩
noncomputable def qL:{b:Scope // ag fN=b}:=by
 have e:ag fN=ag fN:=rfl
 conv at e=>rhs;whnf
 exact⟨_,e⟩
theorem Au:ba tO [(Str.ofString "mask"),(Str.ofString "number")] qL.1:=⟨rfl,rfl,rfl,by decide+kernel,rfl,by decide+kernel,by decide+kernel⟩
noncomputable def sZ:FS:=(eY (e2 zk (e2 oj (ah 0) (ah 1)) (eC (.int 1))))
noncomputable def fJ:List D→R D:=mW tO sZ
theorem z_{P:Program}{w:World}{K:PySem.W.Frag}{mg:Str→Option Value}{base:Heap}{cl:Nat→Addr}(T:Tp K mg cl)(h:Def K mg (Str.ofString "bit_at") fN):Callee P w K mg base 1 (Str.ofString "bit_at") 2 fJ:=by
 obtain⟨f,fd,F,hm⟩:=h
 exact⟨f,fd,_,c9 (k:=0) zh.2 qL.2 F Au (fun cdv A outer s H E hr=>(bx (bZ (aM uz (aM GX (aa 0) (aa 1)) ak)))),hm,F.kp,F.binds fun _ _ _ _ _ _ us hl=>match us,hl with | [_,_],_=>rfl⟩
noncomputable abbrev et:Stmt:=top 11
noncomputable abbrev i9:List Str:=[(Str.ofString "masks"),(Str.ofString "number")]
noncomputable def vK:{b:List Stmt // ao et=b}:=by
 have e:ao et=ao et:=rfl
 conv at e=>rhs;whnf
 exact⟨_,e⟩
noncomputable def oQ:{b:Scope // ag et=b}:=by
 have e:ag et=ag et:=rfl
 conv at e=>rhs;whnf
 exact⟨_,e⟩
theorem yS:ba i9 [(Str.ofString "masks"),(Str.ofString "number")] oQ.1:=⟨rfl,rfl,rfl,by decide+kernel,rfl,by decide+kernel,by decide+kernel⟩
noncomputable def qI:FS:=(eV (qo (b2 jl (aX fJ (ay (e2 c0 (ah 0) (eC (.int 0))) (ay (ah 1) aV))) (eC (.int 1))) (eY (eC (.int 0))) jU) (eV (qo (b2 jl (aX fJ (ay (e2 c0 (ah 0) (eC (.int 1))) (ay (ah 1) aV))) (eC (.int 1))) (eY (eC (.int 1))) jU) (eY (eC .cK))))
noncomputable def gT:List D→R D:=mW i9 qI
theorem y4{P:Program}{w:World}{K:PySem.W.Frag}{mg:Str→Option Value}{base:Heap}{cl:Nat→Addr}(T:Tp K mg cl)(h:Def K mg (Str.ofString "read_at") et)(C_bit_at:Callee P w K mg base 1 (Str.ofString "bit_at") 2 fJ):Callee P w K mg base 2 (Str.ofString "read_at") 2 gT:=by
 obtain⟨f,fd,F,hm⟩:=h
 exact⟨f,fd,_,c9 (k:=1) vK.2 oQ.2 F yS (fun cdv A outer s H E hr=>(bX (iQ (bB (ja hr.units) (b_ C_bit_at hr (by decide) rfl (af (aU (aa 0) ak (fun _ _=>rfl)) (af (aa 1) aq)) (a_ (a_ cA))) ak (cv _)) (bx (bZ ak)) gu) (bX (iQ (bB (ja hr.units) (b_ C_bit_at hr (by decide) rfl (af (aU (aa 0) ak (fun _ _=>rfl)) (af (aa 1) aq)) (a_ (a_ cA))) ak (cv _)) (bx (bZ ak)) gu) (bx (bZ xS))))),hm,F.kp,F.binds fun _ _ _ _ _ _ us hl=>match us,hl with | [_,_],_=>rfl⟩
noncomputable abbrev jC:Stmt:=top 12
noncomputable abbrev zP:List Str:=[(Str.ofString "bits")]
noncomputable def C6:{b:List Stmt // ao jC=b}:=by
 have e:ao jC=ao jC:=rfl
 conv at e=>rhs;whnf
 exact⟨_,e⟩
noncomputable def wY:{b:Scope // ag jC=b}:=by
 have e:ag jC=ag jC:=rfl
 conv at e=>rhs;whnf
 exact⟨_,e⟩
theorem Gh:ba zP [(Str.ofString "bits")] wY.1:=⟨rfl,rfl,rfl,by decide+kernel,rfl,by decide+kernel,by decide+kernel⟩
noncomputable def zA:FS:=(eY (aX gT (ay (aX fg (ay (ah 0) (ay (eC (.int 1)) aV))) (ay (eC (.int 0)) aV))))
noncomputable def lK:List D→R D:=mW zP zA
theorem Gb{P:Program}{w:World}{K:PySem.W.Frag}{mg:Str→Option Value}{base:Heap}{cl:Nat→Addr}(T:Tp K mg cl)(h:Def K mg (Str.ofString "told") jC)(C_reading:Callee P w K mg base 2 (Str.ofString "reading") 2 fg)(C_read_at:Callee P w K mg base 2 (Str.ofString "read_at") 2 gT):Callee P w K mg base 3 (Str.ofString "told") 1 lK:=by
 obtain⟨f,fd,F,hm⟩:=h
 exact⟨f,fd,_,c9 (k:=2) C6.2 wY.2 F Gh (fun cdv A outer s H E hr=>(bx (bZ (b_ C_read_at hr (by decide) rfl (af (b_ C_reading hr (by decide) rfl (af (aa 0) (af ak aq)) (a_ (a_ cA))) (af ak aq)) (a_ (a_ cA)))))),hm,F.kp,F.binds fun _ _ _ _ _ _ us hl=>match us,hl with | [_],_=>rfl⟩
noncomputable abbrev cL:Stmt:=top 13
noncomputable abbrev gP:List Str:=[(Str.ofString "count"),(Str.ofString "inputs"),(Str.ofString "place"),(Str.ofString "longer"),(Str.ofString "bits")]
noncomputable def qz:{b:List Stmt // ao cL=b}:=by
 have e:ao cL=ao cL:=rfl
 conv at e=>rhs;whnf
 exact⟨_,e⟩
noncomputable def kT:{b:Scope // ag cL=b}:=by
 have e:ag cL=ag cL:=rfl
 conv at e=>rhs;whnf
 exact⟨_,e⟩
theorem eE:ba gP [(Str.ofString "count")] kT.1:=⟨rfl,rfl,rfl,by decide+kernel,rfl,by decide+kernel,by decide+kernel⟩
noncomputable def kA:FZ:=(bu (lT 3 (xP (e2 jg (ah 4) (eW (ay (eC (.int 0)) aV))))) (lT 3 (xP (e2 jg (ah 4) (eW (ay (eC (.int 1)) aV))))))
noncomputable def j4:FZ:=(Bd 1 (bu (cy 3 (lH (dN aV))) (bu (i0 (iP (dz (ah 1))) (iG 4) kA) (cy 1 (bK 3)))))
noncomputable def jm:FZ:=(bu (cy 1 (lH (dN (ay (eW aV) aV)))) (bu (i0 (iP (iZ (ah 0))) (iG 2) j4) (gG (bK 1))))
noncomputable def kQ:List V3→aH→R3 V3:=lL gP jm
noncomputable def eN:List V3→aH→R3 V3:=mP gP jm
theorem su{P:Program}{w:World}{K:PySem.W.Frag}{mg:Str→Option Value}{base:Heap}{cl:Nat→Addr}(T:Tp K mg cl)(h:Def K mg (Str.ofString "all_inputs") cL):aF P w K mg base cl 1 (Str.ofString "all_inputs") 1 kQ:=by
 obtain⟨f,fd,F,hm⟩:=h
 exact⟨f,fd,_,cj (k:=0) qz.2 kT.2 F eE (fun cdv A outer s H E hr=>(au (bq eE.nd rfl (Or.inl rfl) (fW (bO (af (cY aq) aq)))) (au (d6 PassesOwn.never rfl (dg (eZ (aa 0) rfl T.z_range)) (aW eE.nd rfl (Or.inl rfl)) (Cy 1 (au (bq eE.nd rfl (Or.inl rfl) (fW (bO aq))) (au (d6 PassesOwn.never rfl (dg (cw (aa 1))) (aW eE.nd rfl (Or.inl rfl)) (au (iV rfl (Or.inl rfl) (ai (aM lC (aa 4) (cY (af ak aq))))) (aK (iV rfl (Or.inl rfl) (ai (aM lC (aa 4) (cY (af ak aq)))))))) (aK (bq eE.nd rfl (Or.inl rfl) (aL 3))))))) (aK (cN (aL 1)))))),hm,F.kp,F.binds fun _ _ _ _ _ _ us hl=>match us,hl with | [_],_=>rfl⟩
noncomputable abbrev eD:Stmt:=top 14
noncomputable abbrev nE:List Str:=[(Str.ofString "bits"),(Str.ofString "mask"),(Str.ofString "bit")]
noncomputable def v_:{b:List Stmt // ao eD=b}:=by
 have e:ao eD=ao eD:=rfl
 conv at e=>rhs;whnf
 exact⟨_,e⟩
noncomputable def pe:{b:Scope // ag eD=b}:=by
 have e:ag eD=ag eD:=rfl
 conv at e=>rhs;whnf
 exact⟨_,e⟩
theorem kN:ba nE [(Str.ofString "bits")] pe.1:=⟨rfl,rfl,rfl,by decide+kernel,rfl,by decide+kernel,by decide+kernel⟩
noncomputable def km:FS:=(jE 1 (e2 f7 (e2 lp (ah 1) (eC (.int 2))) (ah 2)))
noncomputable def qX:FS:=(eV (jE 1 (eC (.int 0))) (eV (si (D4 (ah 0)) (bb 2) km) (eY (ah 1))))
noncomputable def fk:List D→R D:=mW nE qX
theorem y9{P:Program}{w:World}{K:PySem.W.Frag}{mg:Str→Option Value}{base:Heap}{cl:Nat→Addr}(T:Tp K mg cl)(h:Def K mg (Str.ofString "mask_of") eD):Callee P w K mg base 1 (Str.ofString "mask_of") 1 fk:=by
 obtain⟨f,fd,F,hm⟩:=h
 exact⟨f,fd,_,c9 (k:=0) v_.2 pe.2 F kN (fun cdv A outer s H E hr=>(bX (iA kN.nd rfl (Or.inl rfl) ak) (bX (j2 PassesOwn.never rfl (Aj (aa 0) rfl T.z_reversed) (bz kN.nd rfl (Or.inl rfl)) (bx (iA kN.nd rfl (Or.inl rfl) (aM hW (aM q9 (aa 1) ak) (aa 2))))) (bx (bZ (aa 1)))))),hm,F.kp,F.binds fun _ _ _ _ _ _ us hl=>match us,hl with | [_],_=>rfl⟩
noncomputable abbrev eF:Stmt:=top 15
noncomputable abbrev nj:List Str:=[(Str.ofString "inputs"),(Str.ofString "place")]
noncomputable def vb:{b:List Stmt // ao eF=b}:=by
 have e:ao eF=ao eF:=rfl
 conv at e=>rhs;whnf
 exact⟨_,e⟩
noncomputable def lr:{b:Scope // ag eF=b}:=by
 have e:ag eF=ag eF:=rfl
 conv at e=>rhs;whnf
 exact⟨_,e⟩
theorem yz:ba nj [(Str.ofString "inputs"),(Str.ofString "place")] lr.1:=⟨rfl,rfl,rfl,by decide+kernel,rfl,by decide+kernel,by decide+kernel⟩
noncomputable def qN:FS:=(eY (aX fk (ay (eNew (eK (dz (ah 0)) (bb 0) qh (e2 c0 (ah 0) (ah 1)) [(Str.ofString "bits")] [1])) aV)))
noncomputable def gU:List D→R D:=mW nj qN
theorem zg{P:Program}{w:World}{K:PySem.W.Frag}{mg:Str→Option Value}{base:Heap}{cl:Nat→Addr}(T:Tp K mg cl)(h:Def K mg (Str.ofString "in_mask") eF)(C_mask_of:Callee P w K mg base 1 (Str.ofString "mask_of") 1 fk):Callee P w K mg base 2 (Str.ofString "in_mask") 2 gU:=by
 obtain⟨f,fd,F,hm⟩:=h
 exact⟨f,fd,_,c9 (k:=1) vb.2 lr.2 F yz (fun cdv A outer s H E hr=>(bx (bZ (b_ C_mask_of hr (by decide) rfl (af (bV (dM rfl (ck.of (own:=[(Str.ofString "bits")]) (kp:=[1]) (kn:=[(Str.ofString "place")]) (sc:=lr.1) (N:=nj) rfl rfl (by decide+kernel)) (cw (aa 0)) (fun _ _ _=>(bz (show List.Nodup [(Str.ofString "bits"),(Str.ofString "place")] from by decide+kernel) rfl (Or.inl rfl))) (fun _ _ _=>gd) (fun _ _ _=>(aU (aa 0) (aa 1) (fun _ _=>rfl))))) aq) (a_ cA))))),hm,F.kp,F.binds fun _ _ _ _ _ _ us hl=>match us,hl with | [_,_],_=>rfl⟩
noncomputable abbrev eG:Stmt:=top 18
noncomputable abbrev ji:List Str:=[(Str.ofString "places"),(Str.ofString "size"),(Str.ofString "found"),(Str.ofString "ahead"),(Str.ofString "place"),(Str.ofString "rest")]
noncomputable def vD:{b:List Stmt // ao eG=b}:=by
 have e:ao eG=ao eG:=rfl
 conv at e=>rhs;whnf
 exact⟨_,e⟩
noncomputable def pK:{b:Scope // ag eG=b}:=by
 have e:ag eG=ag eG:=rfl
 conv at e=>rhs;whnf
 exact⟨_,e⟩
theorem jj:ba ji [(Str.ofString "places"),(Str.ofString "size")] pK.1:=⟨rfl,rfl,rfl,by decide+kernel,rfl,by decide+kernel,by decide+kernel⟩
noncomputable def j0(self:List D→R D):FS:=(n5 2 (e2 jg (eW (ay (ah 4) aV)) (ah 5)))
noncomputable def kl(self:List D→R D):FS:=(si (dz (aX self (ay (wy (ah 0) (gq (e2 jg (ah 3) (eC (.int 1)))) iz) (ay (e2 nq (ah 1) (eC (.int 1))) aV)))) (bb 5) (j0 self))
noncomputable def jk(self:List D→R D):FS:=(eV (qo (b2 jl (ah 1) (eC (.int 0))) (eY (eNew (dN (ay (eW aV) aV)))) jU) (eV (nC 2 (dN aV)) (eV (si (eL (ah 0)) (gz 2 (cI (bb 3) (cI (bb 4) gx))) (kl self)) (oP 2 (eY (ah 2))))))
noncomputable def dr:Nat→List D→R D
 | 0=>fun _=> .no
 | n+1=>mW ji (jk (dr n))
theorem qQ{P:Program}{w:World}{K:PySem.W.Frag}{mg:Str→Option Value}{base:Heap}{cl:Nat→Addr}(T:Tp K mg cl)(h:Def K mg (Str.ofString "choices") eG):∀n,Callee P w K mg base (1+n) (Str.ofString "choices") 2 (dr n)
 | 0=>by
   obtain⟨f,fd,F,hm⟩:=h
   exact⟨f,fd,[(Str.ofString "places"),(Str.ofString "size")],G2,hm,F.kp,F.binds fun _ _ _ _ _ _ us hl=>match us,hl with | [_,_],_=>rfl⟩
 | n+1=>by
   have C_self:=qQ (P:=P) (w:=w) (K:=K) (mg:=mg) (base:=base) T h n
   obtain⟨f,fd,F,hm⟩:=h
   exact⟨f,fd,_,c9 (k:=1+n) vD.2 pK.2 F jj (fun cdv A outer s H E hr=>(bX (iQ (bB (ja hr.units) (aa 1) ak (cv _)) (bx (bZ (bV (bO (af (cY aq) aq))))) gu) (bX (Bx jj.nd rfl (Or.inl rfl) (bO aq)) (bX (j2 PassesOwn.never rfl (jh (aa 0) rfl T.z_enumerate) (mO rfl (d4 (bz jj.nd rfl (Or.inl rfl)) (d4 (bz jj.nd rfl (Or.inl rfl)) kO))) (bx (j2 PassesOwn.never rfl (cw (b_ C_self hr (by omega) rfl (af (rV (aa 0) (kz (aM lC (aa 3) ak)) jW) (af (aM uD (aa 1) ak) aq)) (a_ (a_ cA)))) (bz jj.nd rfl (Or.inl rfl)) (bx (Bp rfl (Or.inl rfl) (aM lC (cY (af (aa 4) aq)) (aa 5))))))) (zy 2 (bx (bZ (aa 2)))))))),hm,F.kp,F.binds fun _ _ _ _ _ _ us hl=>match us,hl with | [_,_],_=>rfl⟩
noncomputable abbrev er:Stmt:=top 21
noncomputable abbrev nu:List Str:=[(Str.ofString "places"),(Str.ofString "others")]
noncomputable def wd:{b:List Stmt // ao er=b}:=by
 have e:ao er=ao er:=rfl
 conv at e=>rhs;whnf
 exact⟨_,e⟩
noncomputable def lR:{b:Scope // ag er=b}:=by
 have e:ag er=ag er:=rfl
 conv at e=>rhs;whnf
 exact⟨_,e⟩
theorem yt:ba nu [(Str.ofString "places"),(Str.ofString "others")] lR.1:=⟨rfl,rfl,rfl,by decide+kernel,rfl,by decide+kernel,by decide+kernel⟩
noncomputable def q_:FS:=(eY (aX El (ay (eNew (eK (dz (ah 1)) (bb 0) qh (e2 ue (ah 0) (ah 1)) [(Str.ofString "place")] [0])) aV)))
noncomputable def fZ:List D→R D:=mW nu q_
theorem yM{P:Program}{w:World}{K:PySem.W.Frag}{mg:Str→Option Value}{base:Heap}{cl:Nat→Addr}(T:Tp K mg cl)(h:Def K mg (Str.ofString "has_all") er):Callee P w K mg base 1 (Str.ofString "has_all") 2 fZ:=by
 obtain⟨f,fd,F,hm⟩:=h
 exact⟨f,fd,_,c9 (k:=0) wd.2 lR.2 F yt (fun cdv A outer s H E hr=>(bx (bZ (br (GF rfl) rfl T.z_all PyProof.Rows.boot_all (af (bV (dM rfl (ck.of (own:=[(Str.ofString "place")]) (kp:=[0]) (kn:=[(Str.ofString "places")]) (sc:=lR.1) (N:=nu) rfl rfl (by decide+kernel)) (cw (aa 1)) (fun _ _ _=>(bz (show List.Nodup [(Str.ofString "place"),(Str.ofString "places")] from by decide+kernel) rfl (Or.inl rfl))) (fun _ _ _=>gd) (fun _ _ _=>(C5 EW (aa 0) (aa 1) (by with_unfolding_all rfl))))) aq))))),hm,F.kp,F.binds fun _ _ _ _ _ _ us hl=>match us,hl with | [_,_],_=>rfl⟩
noncomputable abbrev bp:Stmt:=inClass (top 16) 0
noncomputable abbrev cR:List Str:=[(Str.ofString "self"),(Str.ofString "net"),(Str.ofString "inputs")]
noncomputable def l4:{b:List Stmt // ao bp=b}:=by
 have e:ao bp=ao bp:=rfl
 conv at e=>rhs;whnf
 exact⟨_,e⟩
noncomputable def dX:{b:Scope // ag bp=b}:=by
 have e:ag bp=ag bp:=rfl
 conv at e=>rhs;whnf
 exact⟨_,e⟩
theorem jf:ba cR [(Str.ofString "self"),(Str.ofString "net")] dX.1:=⟨rfl,rfl,rfl,by decide+kernel,rfl,by decide+kernel,by decide+kernel⟩
noncomputable def f6:FZ:=(bu (cy 2 (bQ eN (av (xP (aX eP (ay (e2 c0 (ah 1) (eC (.int 0))) aV))) bU))) (bu (rX 0 (Str.ofString "net") (bK 0) (xP (ah 1))) (bu (rX 0 (Str.ofString "many_inputs") (bK 0) (xP (aX eP (ay (ah 2) aV)))) (bu (rX 0 (Str.ofString "full") (bK 0) (xP (aX fk (ay (eNew (eK (dz (ah 2)) (bb 0) qh (eC (.int 1)) [(Str.ofString "bits")] [])) aV)))) (rX 0 (Str.ofString "in_masks") (bK 0) (xP (eNew (eK (iZ (aX eP (ay (e2 c0 (ah 1) (eC (.int 0))) aV))) (bb 0) qh (aX gU (ay (ah 1) (ay (ah 0) aV))) [(Str.ofString "place")] [2]))))))))
noncomputable def cH:List V3→aH→R3 V3:=lL cR f6
noncomputable def ya:List V3→aH→R3 V3:=mP cR f6
theorem dy{P:Program}{w:World}{K:PySem.W.Frag}{mg:Str→Option Value}{base:Heap}{cl:Nat→Addr}(T:Tp K mg cl)(h:yL K (cl 0) (Str.ofString "__init__") (Str.ofString "Bench.__init__") bp)(C_mask_of:Callee P w K mg base 1 (Str.ofString "mask_of") 1 fk)(C_in_mask:Callee P w K mg base 2 (Str.ofString "in_mask") 2 gU)(XP_all_inputs:aF P w K mg base cl 1 (Str.ofString "all_inputs") 1 eN):pS P w K mg base cl 3 0 (Str.ofString "Bench") 1 cH:=by
 obtain⟨f,fd,F,hm⟩:=h
 exact⟨f,fd,_,hm,cj (k:=2) l4.2 dX.2 F jf (fun cdv A outer s H E hr=>(au (bq jf.nd rfl (Or.inr rfl) (bg XP_all_inputs hr (by decide) rfl (ab (ai (br e_ rfl T.z_len PySem.boot_len (af (aU (aa 1) ak (fun _ _=>rfl)) aq))) aD) (ae aG))) (au (lQ T.C_Bench T.N_Bench_net (aL 0) (ai (aa 1))) (au (lQ T.C_Bench T.N_Bench_many_inputs (aL 0) (ai (br e_ rfl T.z_len PySem.boot_len (af (aa 2) aq)))) (au (lQ T.C_Bench T.N_Bench_full (aL 0) (ai (b_ C_mask_of hr (by decide) rfl (af (bV (dM rfl (ck.of (own:=[(Str.ofString "bits")]) (kp:=[]) (kn:=[]) (sc:=dX.1) (N:=cR) rfl rfl (by decide+kernel)) (cw (aa 2)) (fun _ _ _=>(bz (show List.Nodup [(Str.ofString "bits")] from by decide+kernel) rfl (Or.inl rfl))) (fun _ _ _=>gd) (fun _ _ _=>ak))) aq) (a_ cA)))) (aK (lQ T.C_Bench T.N_Bench_in_masks (aL 0) (ai (bV (dM rfl (ck.of (own:=[(Str.ofString "place")]) (kp:=[2]) (kn:=[(Str.ofString "inputs")]) (sc:=dX.1) (N:=cR) rfl rfl (by decide+kernel)) (eZ (br e_ rfl T.z_len PySem.boot_len (af (aU (aa 1) ak (fun _ _=>rfl)) aq)) rfl T.z_range) (fun _ _ _=>(bz (show List.Nodup [(Str.ofString "place"),(Str.ofString "inputs")] from by decide+kernel) rfl (Or.inl rfl))) (fun _ _ _=>gd) (fun _ _ _=>(b_ C_in_mask hr (by decide) rfl (af (aa 1) (af (aa 0) aq)) (a_ (a_ cA)))))))))))))),T.M_Bench,F.binds fun _ _ _ _ _ _ us hl=>match us,hl with | [_,_],_=>rfl⟩
noncomputable abbrev bA:Stmt:=inClass (top 16) 1
noncomputable abbrev gh:List Str:=[(Str.ofString "self"),(Str.ofString "turned"),(Str.ofString "bad")]
noncomputable def o5:{b:List Stmt // ao bA=b}:=by
 have e:ao bA=ao bA:=rfl
 conv at e=>rhs;whnf
 exact⟨_,e⟩
noncomputable def j6:{b:Scope // ag bA=b}:=by
 have e:ag bA=ag bA:=rfl
 conv at e=>rhs;whnf
 exact⟨_,e⟩
theorem qw:ba gh [(Str.ofString "self"),(Str.ofString "turned"),(Str.ofString "bad")] j6.1:=⟨rfl,rfl,rfl,by decide+kernel,rfl,by decide+kernel,by decide+kernel⟩
noncomputable def iY:FZ:=(gG (bQ dJ (av (oW 0 (Str.ofString "net") (bK 0)) (av (bQ dm (av (oW 0 (Str.ofString "net") (bK 0)) (av (oW 0 (Str.ofString "in_masks") (bK 0)) (av (oW 0 (Str.ofString "full") (bK 0)) (av (xP (ah 1)) (av (xP (ah 2)) bU)))))) bU))))
noncomputable def ka:List V3→aH→R3 V3:=lL gh iY
noncomputable def ee:List V3→aH→R3 V3:=mP gh iY
theorem eO{P:Program}{w:World}{K:PySem.W.Frag}{mg:Str→Option Value}{base:Heap}{cl:Nat→Addr}(T:Tp K mg cl)(h:sk K (cl 0) (Str.ofString "tells") (Str.ofString "Bench.tells") bA)(XP_out_masks:aF P w K mg base cl 2 (Str.ofString "out_masks") 2 dJ)(XP_wire_masks:aF P w K mg base cl 3 (Str.ofString "wire_masks") 5 dm):gE P w K mg base cl 4 0 (Str.ofString "tells") 2 ka:=by
 obtain⟨f,fd,F,hm⟩:=h
 exact⟨f,fd,_,T.C_Bench,hm,cj (k:=3) o5.2 j6.2 F qw (fun cdv A outer s H E hr=>(aK (cN (bg XP_out_masks hr (by decide) rfl (ab (jq T.C_Bench T.N_Bench_net (aL 0)) (ab (bg XP_wire_masks hr (by decide) rfl (ab (jq T.C_Bench T.N_Bench_net (aL 0)) (ab (jq T.C_Bench T.N_Bench_in_masks (aL 0)) (ab (jq T.C_Bench T.N_Bench_full (aL 0)) (ab (ai (aa 1)) (ab (ai (aa 2)) aD))))) (ae (ae (ae (ae (ae aG)))))) aD)) (ae (ae aG)))))),F.binds fun _ _ _ _ _ _ us hl=>match us,hl with | [_,_,_],_=>rfl⟩
noncomputable abbrev bh:Stmt:=inClass (top 16) 2
noncomputable abbrev dt:List Str:=[(Str.ofString "self"),(Str.ofString "turned")]
noncomputable def lW:{b:List Stmt // ao bh=b}:=by
 have e:ao bh=ao bh:=rfl
 conv at e=>rhs;whnf
 exact⟨_,e⟩
noncomputable def fD:{b:Scope // ag bh=b}:=by
 have e:ag bh=ag bh:=rfl
 conv at e=>rhs;whnf
 exact⟨_,e⟩
theorem mS:ba dt [(Str.ofString "self"),(Str.ofString "turned")] fD.1:=⟨rfl,rfl,rfl,by decide+kernel,rfl,by decide+kernel,by decide+kernel⟩
noncomputable def f9:FZ:=(gG (jJ (y8 (qU 0 (Str.ofString "tells") ee (bK 0) (av (xP (ah 1)) (av (xP (eW aV)) bU)))) (iG 0) yI (jA fg (av (xP (ah 0)) (av (oW 0 (Str.ofString "full") (bK 1)) bU))) [(Str.ofString "masks")] [0]))
noncomputable def iO:List V3→aH→R3 V3:=lL dt f9
noncomputable def cn:List V3→aH→R3 V3:=mP dt f9
theorem dv{P:Program}{w:World}{K:PySem.W.Frag}{mg:Str→Option Value}{base:Heap}{cl:Nat→Addr}(T:Tp K mg cl)(h:sk K (cl 0) (Str.ofString "readings") (Str.ofString "Bench.readings") bh)(C_reading:Callee P w K mg base 2 (Str.ofString "reading") 2 fg)(XP_Bench_tells:gE P w K mg base cl 4 0 (Str.ofString "tells") 2 ee):gE P w K mg base cl 5 0 (Str.ofString "readings") 1 iO:=by
 obtain⟨f,fd,F,hm⟩:=h
 exact⟨f,fd,_,T.C_Bench,hm,cj (k:=4) lW.2 fD.2 F mS (fun cdv A outer s H E hr=>(aK (cN (so rfl (ck.of (own:=[(Str.ofString "masks")]) (kp:=[0]) (kn:=[(Str.ofString "self")]) (sc:=fD.1) (N:=dt) rfl rfl (by decide+kernel)) (rQ (oE XP_Bench_tells hr (by decide) (aL 0) (ab (ai (aa 1)) (ab (ai (cY aq)) aD)) (ae (ae aG)))) (fun _ _ _=>(aW (show List.Nodup [(Str.ofString "masks"),(Str.ofString "self")] from by decide+kernel) rfl (Or.inl rfl))) (fun _ _ _=>kK) (fun _ _ _=>(tp C_reading hr (by decide) rfl (ab (ai (aa 0)) (ab (jq T.C_Bench T.N_Bench_full (aL 1)) aD)) (ae (ae aG)))))))),F.binds fun _ _ _ _ _ _ us hl=>match us,hl with | [_,_],_=>rfl⟩
noncomputable abbrev bj:Stmt:=inClass (top 19) 0
noncomputable abbrev dw:List Str:=[(Str.ofString "self"),(Str.ofString "net")]
noncomputable def lV:{b:List Stmt // ao bj=b}:=by
 have e:ao bj=ao bj:=rfl
 conv at e=>rhs;whnf
 exact⟨_,e⟩
noncomputable def fA:{b:Scope // ag bj=b}:=by
 have e:ag bj=ag bj:=rfl
 conv at e=>rhs;whnf
 exact⟨_,e⟩
theorem mZ:ba dw [(Str.ofString "self"),(Str.ofString "net")] fA.1:=⟨rfl,rfl,rfl,by decide+kernel,rfl,by decide+kernel,by decide+kernel⟩
noncomputable def fU:FZ:=(bu (rX 1 (Str.ofString "bench") (bK 0) (xD 0 cH (av (xP (ah 1)) bU))) (bu (rX 1 (Str.ofString "plain") (bK 0) (qU 0 (Str.ofString "readings") cn (oW 1 (Str.ofString "bench") (bK 0)) (av (xP (eW aV)) bU))) (rX 1 (Str.ofString "unsure") (bK 0) (xP (eNew (eK (eL (e2 c0 (ah 1) (eC (.int 1)))) (gz 2 (cI (bb 0) (cI (bb 1) gx))) (nA (lu (e2 c0 (ah 1) (eC (.int 2))))) (ah 0) [(Str.ofString "place"),(Str.ofString "gate")] []))))))
noncomputable def cG:List V3→aH→R3 V3:=lL dw fU
noncomputable def yh:List V3→aH→R3 V3:=mP dw fU
theorem du{P:Program}{w:World}{K:PySem.W.Frag}{mg:Str→Option Value}{base:Heap}{cl:Nat→Addr}(T:Tp K mg cl)(h:yL K (cl 1) (Str.ofString "__init__") (Str.ofString "Trial.__init__") bj)(XK_Bench___init__:pS P w K mg base cl 3 0 (Str.ofString "Bench") 1 cH)(XP_Bench_readings:gE P w K mg base cl 5 0 (Str.ofString "readings") 1 cn):pS P w K mg base cl 6 1 (Str.ofString "Trial") 1 cG:=by
 obtain⟨f,fd,F,hm⟩:=h
 exact⟨f,fd,_,hm,cj (k:=5) lV.2 fA.2 F mZ (fun cdv A outer s H E hr=>(au (lQ T.C_Trial T.N_Trial_bench (aL 0) (wX XK_Bench___init__ hr (by decide) rfl (ab (ai (aa 1)) aD) (ae aG))) (au (lQ T.C_Trial T.N_Trial_plain (aL 0) (oE XP_Bench_readings hr (by decide) (jq T.C_Trial T.N_Trial_bench (aL 0)) (ab (ai (cY aq)) aD) (ae aG))) (aK (lQ T.C_Trial T.N_Trial_unsure (aL 0) (ai (bV (dM rfl (ck.of (own:=[(Str.ofString "place"),(Str.ofString "gate")]) (kp:=[]) (kn:=[]) (sc:=fA.1) (N:=dw) rfl rfl (by decide+kernel)) (jh (aU (aa 1) ak (fun _ _=>rfl)) rfl T.z_enumerate) (fun _ _ _=>(mO rfl (d4 (bz (show List.Nodup [(Str.ofString "place"),(Str.ofString "gate")] from by decide+kernel) rfl (Or.inl rfl)) (d4 (bz (show List.Nodup [(Str.ofString "place"),(Str.ofString "gate")] from by decide+kernel) rfl (Or.inl rfl)) kO)))) (fun _ _ _=>(ky (wW (rT (aU (aa 1) ak (fun _ _=>rfl)))))) (fun _ _ _=>(aa 0)))))))))),T.M_Trial,F.binds fun _ _ _ _ _ _ us hl=>match us,hl with | [_,_],_=>rfl⟩
noncomputable abbrev aY:Stmt:=inClass (top 19) 1
noncomputable abbrev dY:List Str:=[(Str.ofString "self"),(Str.ofString "turned"),(Str.ofString "level"),(Str.ofString "mask"),(Str.ofString "before"),(Str.ofString "after")]
noncomputable def lE:{b:List Stmt // ao aY=b}:=by
 have e:ao aY=ao aY:=rfl
 conv at e=>rhs;whnf
 exact⟨_,e⟩
noncomputable def ib:{b:Scope // ag aY=b}:=by
 have e:ag aY=ag aY:=rfl
 conv at e=>rhs;whnf
 exact⟨_,e⟩
theorem cE:ba dY [(Str.ofString "self"),(Str.ofString "turned"),(Str.ofString "level")] ib.1:=⟨rfl,rfl,rfl,by decide+kernel,rfl,by decide+kernel,by decide+kernel⟩
noncomputable def gK:FZ:=(sV (bP (b2 jl (ah 2) (eC (.str (Str.ofString "safe"))))) (cy 3 (xP (e2 BL (e2 BL (ah 3) (e2 zk (e2 c0 (ah 4) (eC (.int 0))) (e2 c0 (ah 5) (eC (.int 1))))) (e2 zk (e2 c0 (ah 4) (eC (.int 1))) (e2 c0 (ah 5) (eC (.int 0))))))) (cy 3 (xP (e2 BL (e2 BL (ah 3) (e2 zj (e2 c0 (ah 4) (eC (.int 0))) (e2 c0 (ah 5) (eC (.int 0))))) (e2 zj (e2 c0 (ah 4) (eC (.int 1))) (e2 c0 (ah 5) (eC (.int 1))))))))
noncomputable def fO:FZ:=(bu (cy 3 (xP (eC (.int 0)))) (bu (i0 (Ck (oW 1 (Str.ofString "plain") (bK 0)) (qU 0 (Str.ofString "readings") cn (oW 1 (Str.ofString "bench") (bK 0)) (av (xP (ah 1)) bU))) (uT 2 (oF (iG 4) (oF (iG 5) u6))) gK) (gG (xP (ah 3)))))
noncomputable def ie:List V3→aH→R3 V3:=lL dY fO
noncomputable def cW:List V3→aH→R3 V3:=mP dY fO
theorem di{P:Program}{w:World}{K:PySem.W.Frag}{mg:Str→Option Value}{base:Heap}{cl:Nat→Addr}(T:Tp K mg cl)(h:sk K (cl 1) (Str.ofString "breaks_at") (Str.ofString "Trial.breaks_at") aY)(XP_Bench_readings:gE P w K mg base cl 5 0 (Str.ofString "readings") 1 cn):gE P w K mg base cl 6 1 (Str.ofString "breaks_at") 2 ie:=by
 obtain⟨f,fd,F,hm⟩:=h
 exact⟨f,fd,_,T.C_Trial,hm,cj (k:=5) lE.2 ib.2 F cE (fun cdv A outer s H E hr=>(au (bq cE.nd rfl (Or.inl rfl) (ai ak)) (au (d6 PassesOwn.never rfl (x8 (jq T.C_Trial T.N_Trial_plain (aL 0)) (oE XP_Bench_readings hr (by decide) (jq T.C_Trial T.N_Trial_bench (aL 0)) (ab (ai (aa 1)) aD) (ae aG)) rfl T.z_zip) (iL rfl (cq (aW cE.nd rfl (Or.inl rfl)) (cq (aW cE.nd rfl (Or.inl rfl)) gB))) (aK (i5 (fF (bB (ja hr.units) (aa 2) bR (cv _))) (aK (bq cE.nd rfl (Or.inl rfl) (ai (aM uR (aM uR (aa 3) (aM uz (aU (aa 4) ak (fun _ _=>rfl)) (aU (aa 5) ak (fun _ _=>rfl)))) (aM uz (aU (aa 4) ak (fun _ _=>rfl)) (aU (aa 5) ak (fun _ _=>rfl))))))) (aK (bq cE.nd rfl (Or.inl rfl) (ai (aM uR (aM uR (aa 3) (aM ug (aU (aa 4) ak (fun _ _=>rfl)) (aU (aa 5) ak (fun _ _=>rfl)))) (aM ug (aU (aa 4) ak (fun _ _=>rfl)) (aU (aa 5) ak (fun _ _=>rfl)))))))))) (aK (cN (ai (aa 3))))))),F.binds fun _ _ _ _ _ _ us hl=>match us,hl with | [_,_,_],_=>rfl⟩
noncomputable abbrev dE:Stmt:=top 22
noncomputable abbrev f_:List Str:=[(Str.ofString "net"),(Str.ofString "many"),(Str.ofString "level"),(Str.ofString "trial"),(Str.ofString "found"),(Str.ofString "size"),(Str.ofString "places")]
noncomputable def uN:{b:List Stmt // ao dE=b}:=by
 have e:ao dE=ao dE:=rfl
 conv at e=>rhs;whnf
 exact⟨_,e⟩
noncomputable def kB:{b:Scope // ag dE=b}:=by
 have e:ag dE=ag dE:=rfl
 conv at e=>rhs;whnf
 exact⟨_,e⟩
theorem il:ba f_ [(Str.ofString "net"),(Str.ofString "many"),(Str.ofString "level")] kB.1:=⟨rfl,rfl,rfl,by decide+kernel,rfl,by decide+kernel,by decide+kernel⟩
noncomputable def js:FZ:=(sV (bT (lu (aX Cs (ay (eNew (eK (dz (ah 4)) (bb 0) qh (aX fZ (ay (ah 1) (ay (ah 0) aV))) [(Str.ofString "others")] [6])) aV)))) ku (sV (HX sC (qU 1 (Str.ofString "breaks_at") cW (bK 3) (av (xP (ah 6)) (av (xP (ah 2)) bU))) (xP (eC (.int 0)))) (lT 4 (xP (ah 6))) ku))
noncomputable def mj:FZ:=(i0 (y8 (jA (dr 4) (av (oW 1 (Str.ofString "unsure") (bK 3)) (av (xP (ah 5)) bU)))) (iG 6) js)
noncomputable def jH:FZ:=(bu (cy 3 (xD 1 cG (av (xP (ah 0)) bU))) (bu (cy 4 (lH (dN aV))) (bu (i0 (iP (iZ (e2 f7 (ah 1) (eC (.int 1))))) (iG 5) mj) (gG (bK 4)))))
noncomputable def iU:List V3→aH→R3 V3:=lL f_ jH
noncomputable def iR:List V3→aH→R3 V3:=mP f_ jH
theorem vm{P:Program}{w:World}{K:PySem.W.Frag}{mg:Str→Option Value}{base:Heap}{cl:Nat→Addr}(T:Tp K mg cl)(h:Def K mg (Str.ofString "breaking") dE)(C_choices:Callee P w K mg base 5 (Str.ofString "choices") 2 (dr 4))(C_has_all:Callee P w K mg base 1 (Str.ofString "has_all") 2 fZ)(XK_Trial___init__:pS P w K mg base cl 6 1 (Str.ofString "Trial") 1 cG)(XP_Trial_breaks_at:gE P w K mg base cl 6 1 (Str.ofString "breaks_at") 2 cW):aF P w K mg base cl 8 (Str.ofString "breaking") 3 iU:=by
 obtain⟨f,fd,F,hm⟩:=h
 exact⟨f,fd,_,cj (k:=7) uN.2 kB.2 F il (fun cdv A outer s H E hr=>(au (bq il.nd rfl (Or.inl rfl) (wX XK_Trial___init__ hr (by decide) rfl (ab (ai (aa 0)) aD) (ae aG))) (au (bq il.nd rfl (Or.inl rfl) (fW (bO aq))) (au (d6 PassesOwn.never rfl (dg (eZ (aM hW (aa 1) ak) rfl T.z_range)) (aW il.nd rfl (Or.inl rfl)) (aK (CY PassesOwn.never rfl (rQ (tp C_choices hr (by decide) rfl (ab (jq T.C_Trial T.N_Trial_unsure (aL 3)) (ab (ai (aa 5)) aD)) (ae (ae aG)))) (aW il.nd rfl (Or.inr rfl)) (AG (mD (rT (br (G4 rfl) rfl T.z_any PyProof.Rows.boot_any (af (bV (dM rfl (ck.of (own:=[(Str.ofString "others")]) (kp:=[6]) (kn:=[(Str.ofString "places")]) (sc:=kB.1) (N:=f_) rfl rfl (by decide+kernel)) (cw (aa 4)) (fun _ _ _=>(bz (show List.Nodup [(Str.ofString "others"),(Str.ofString "places")] from by decide+kernel) rfl (Or.inl rfl))) (fun _ _ _=>gd) (fun _ _ _=>(b_ C_has_all hr (by decide) rfl (af (aa 1) (af (aa 0) aq)) (a_ (a_ cA)))))) aq)))) (ES (aK (i5 (xy (Ab hr.units) (oE XP_Trial_breaks_at hr (by decide) (aL 3) (ab (ai (aa 6)) (ab (ai (aa 2)) aD)) (ae (ae aG))) (ai ak) (cv _)) (aK (iV rfl (Or.inl rfl) (ai (aa 6)))) eR))))))) (aK (cN (aL 4))))))),hm,F.kp,F.binds fun _ _ _ _ _ _ us hl=>match us,hl with | [_,_,_],_=>rfl⟩
noncomputable abbrev dF:Stmt:=top 24
noncomputable abbrev jD:List Str:=[(Str.ofString "pot"),(Str.ofString "many"),(Str.ofString "cell"),(Str.ofString "stir")]
noncomputable def uo:{b:List Stmt // ao dF=b}:=by
 have e:ao dF=ao dF:=rfl
 conv at e=>rhs;whnf
 exact⟨_,e⟩
noncomputable def nR:{b:Scope // ag dF=b}:=by
 have e:ag dF=ag dF:=rfl
 conv at e=>rhs;whnf
 exact⟨_,e⟩
theorem jr:ba jD [(Str.ofString "pot"),(Str.ofString "many")] nR.1:=⟨rfl,rfl,rfl,by decide+kernel,rfl,by decide+kernel,by decide+kernel⟩
noncomputable def lB:FZ:=(bu (Dr (bK 0) (xP (eC (.int 1))) (xT (e2 f7 (e2 c0 (ah 0) (eC (.int 1))) (eC (.int 1))))) (bu (cy 2 (xT (e2 c0 (ah 0) (eC (.int 0))))) (bu (sV (bP (b2 C9 (ah 2) (e2 sr (eC (.int 10)) (eC (.int 18))))) (bu (Dr (bK 0) (xP (eC (.int 0))) (xP (e2 jR (ah 2) (ah 1)))) (gG (xP (e2 jY (ah 2) (ah 1))))) ku) (bu (cy 3 (xT (e2 jY (e2 f7 (e2 f7 (e2 lp (ah 2) (eC (.int 69621))) (e2 lp (e2 c0 (ah 0) (eC (.int 1))) (eC (.int 7919)))) (eC (.int 13))) (eC (.int 2147483647))))) (bu (cy 3 (xP (e2 jY (e2 lp (ah 3) (ah 3)) (eC (.int 2147483629))))) (gG (xT (e2 jY (e2 jR (e2 jY (e2 f7 (e2 lp (ah 3) (eC (.int 48271))) (e2 lp (e2 c0 (ah 0) (eC (.int 1))) (eC (.int 40692)))) (eC (.int 2147483587))) (eC (.int 8))) (ah 1)))))))))
noncomputable def nT:List V3→aH→R3 V3:=lL jD lB
noncomputable def aI:List V3→aH→R3 V3:=mP jD lB
theorem vG{P:Program}{w:World}{K:PySem.W.Frag}{mg:Str→Option Value}{base:Heap}{cl:Nat→Addr}(T:Tp K mg cl)(h:Def K mg (Str.ofString "_law_next") dF):aF P w K mg base cl 1 (Str.ofString "_law_next") 2 nT:=by
 obtain⟨f,fd,F,hm⟩:=h
 exact⟨f,fd,_,cj (k:=0) uo.2 nR.2 F jr (fun cdv A outer s H E hr=>(au (AX (dc (aM hW (aU (aa 0) ak (fun _ _=>rfl)) ak)) (BH (PX.go (aL 0)) (PX.go (ai ak)) set_list)) (au (bq jr.nd rfl (Or.inl rfl) (dc (aU (aa 0) ak (fun _ _=>rfl)))) (au (i5 (fF (bB IZ (aa 2) (aM GW ak ak) (cv _))) (au (AX (ai (aM Az (aa 2) (aa 1))) (BH (PX.go (aL 0)) (PX.go (ai ak)) set_list)) (aK (cN (ai (aM pI (aa 2) (aa 1)))))) eR) (au (bq jr.nd rfl (Or.inl rfl) (dc (aM pI (aM hW (aM hW (aM q9 (aa 2) ak) (aM q9 (aU (aa 0) ak (fun _ _=>rfl)) ak)) ak) ak))) (au (bq jr.nd rfl (Or.inl rfl) (ai (aM pI (aM q9 (aa 3) (aa 3)) ak))) (aK (cN (dc (aM pI (aM Az (aM pI (aM hW (aM q9 (aa 3) ak) (aM q9 (aU (aa 0) ak (fun _ _=>rfl)) ak)) ak) ak) (aa 1))))))))))),hm,F.kp,F.binds fun _ _ _ _ _ _ us hl=>match us,hl with | [_,_],_=>rfl⟩
noncomputable abbrev dD:Stmt:=top 25
noncomputable abbrev iB:List Str:=[(Str.ofString "script")]
noncomputable def tF:{b:List Stmt // ao dD=b}:=by
 have e:ao dD=ao dD:=rfl
 conv at e=>rhs;whnf
 exact⟨_,e⟩
noncomputable def kf:{b:Scope // ag dD=b}:=by
 have e:ag dD=ag dD:=rfl
 conv at e=>rhs;whnf
 exact⟨_,e⟩
theorem wk:ba iB [(Str.ofString "script")] kf.1:=⟨rfl,rfl,rfl,by decide+kernel,rfl,by decide+kernel,by decide+kernel⟩
noncomputable def lP:FZ:=(bu (sV (bP (b2 jl (aX eP (ay (ah 0) aV)) (eC (.int 0)))) (gG (EA (av (lH (dN (ay (eC (.int 0)) (ay (eC (.int 0)) aV)))) bU))) ku) (gG (jJ (iP (dz (wy (ah 0) iz (gq (eC (.int 63)))))) (iG 0) yI (lH (dN (ay (ah 0) (ay (eC (.int 0)) aV)))) [(Str.ofString "cell")] [])))
noncomputable def gr:List V3→aH→R3 V3:=lL iB lP
noncomputable def uw:List V3→aH→R3 V3:=mP iB lP
theorem wO{P:Program}{w:World}{K:PySem.W.Frag}{mg:Str→Option Value}{base:Heap}{cl:Nat→Addr}(T:Tp K mg cl)(h:Def K mg (Str.ofString "_law_pots") dD):aF P w K mg base cl 1 (Str.ofString "_law_pots") 1 gr:=by
 obtain⟨f,fd,F,hm⟩:=h
 exact⟨f,fd,_,cj (k:=0) tF.2 kf.2 F wk (fun cdv A outer s H E hr=>(au (i5 (fF (bB (ja hr.units) (br e_ rfl T.z_len PySem.boot_len (af (aa 0) aq)) ak (cv _))) (aK (cN (E7 (ab (fW (bO (af ak (af ak aq)))) aD)))) eR) (aK (cN (so rfl (ck.of (own:=[(Str.ofString "cell")]) (kp:=[]) (kn:=[]) (sc:=kf.1) (N:=iB) rfl rfl (by decide+kernel)) (dg (cw (rV (aa 0) jW (kz ak)))) (fun _ _ _=>(aW (show List.Nodup [(Str.ofString "cell")] from by decide+kernel) rfl (Or.inl rfl))) (fun _ _ _=>kK) (fun _ _ _=>(fW (bO (af (aa 0) (af ak aq)))))))))),hm,F.kp,F.binds fun _ _ _ _ _ _ us hl=>match us,hl with | [_],_=>rfl⟩
noncomputable abbrev cg:Stmt:=top 26
noncomputable abbrev fE:List Str:=[(Str.ofString "pot"),(Str.ofString "most"),(Str.ofString "wide"),(Str.ofString "names"),(Str.ofString "turn"),(Str.ofString "found"),(Str.ofString "k")]
noncomputable def og:{b:List Stmt // ao cg=b}:=by
 have e:ao cg=ao cg:=rfl
 conv at e=>rhs;whnf
 exact⟨_,e⟩
noncomputable def jO:{b:Scope // ag cg=b}:=by
 have e:ag cg=ag cg:=rfl
 conv at e=>rhs;whnf
 exact⟨_,e⟩
theorem d3:ba fE [(Str.ofString "pot"),(Str.ofString "most"),(Str.ofString "wide")] jO.1:=⟨rfl,rfl,rfl,by decide+kernel,rfl,by decide+kernel,by decide+kernel⟩
noncomputable def i_:FZ:=(lT 5 (uq (av (xP (e2 c0 (ah 3) (e2 jY (e2 f7 (ah 4) (ah 6)) (eC (.int 6))))) (av (x2 f7 (xP (eC (.int 1))) (bQ aI (av (bK 0) (av (xP (ah 2)) bU)))) bU))))
noncomputable def iq:FZ:=(bu (cy 3 (xP (eNew (dN (ay (eC (.str (Str.ofString "a"))) (ay (eC (.str (Str.ofString "bb"))) (ay (eC (.str (Str.ofString "signal"))) (ay (eC (.str (Str.ofString "x"))) (ay (eC (.str (Str.ofString "yes"))) (ay (eC (.str (Str.ofString "abcdefgh"))) aV)))))))))) (bu (cy 4 (bQ aI (av (bK 0) (av (xP (eC (.int 6))) bU)))) (bu (cy 5 (lH (dN aV))) (bu (i0 (lX (x2 f7 (xP (eC (.int 1))) (bQ aI (av (bK 0) (av (xP (ah 1)) bU))))) (iG 6) i_) (gG (bK 5))))))
noncomputable def jL:List V3→aH→R3 V3:=lL fE iq
noncomputable def dO:List V3→aH→R3 V3:=mP fE iq
theorem oY{P:Program}{w:World}{K:PySem.W.Frag}{mg:Str→Option Value}{base:Heap}{cl:Nat→Addr}(T:Tp K mg cl)(h:Def K mg (Str.ofString "_law_some_ins") cg)(XP_law_next:aF P w K mg base cl 1 (Str.ofString "_law_next") 2 aI):aF P w K mg base cl 2 (Str.ofString "_law_some_ins") 3 jL:=by
 obtain⟨f,fd,F,hm⟩:=h
 exact⟨f,fd,_,cj (k:=1) og.2 jO.2 F d3 (fun cdv A outer s H E hr=>(au (bq d3.nd rfl (Or.inl rfl) (ai (bV (bO (af bR (af bR (af bR (af bR (af bR (af bR aq)))))))))) (au (bq d3.nd rfl (Or.inl rfl) (bg XP_law_next hr (by decide) rfl (ab (aL 0) (ab (ai ak) aD)) (ae (ae aG)))) (au (bq d3.nd rfl (Or.inl rfl) (fW (bO aq))) (au (d6 PassesOwn.never rfl (ia (tH hW (ai ak) (bg XP_law_next hr (by decide) rfl (ab (aL 0) (ab (ai (aa 1)) aD)) (ae (ae aG)))) rfl T.z_range) (aW d3.nd rfl (Or.inl rfl)) (aK (iV rfl (Or.inl rfl) (mU (ab (ai (aU (aa 3) (aM pI (aM hW (aa 4) (aa 6)) ak) (fun _ _=>rfl))) (ab (tH hW (ai ak) (bg XP_law_next hr (by decide) rfl (ab (aL 0) (ab (ai (aa 2)) aD)) (ae (ae aG)))) aD)))))) (aK (cN (aL 5)))))))),hm,F.kp,F.binds fun _ _ _ _ _ _ us hl=>match us,hl with | [_,_,_],_=>rfl⟩
noncomputable abbrev dI:Stmt:=top 27
noncomputable abbrev ic:List Str:=[(Str.ofString "pot"),(Str.ofString "many"),(Str.ofString "kind"),(Str.ofString "count"),(Str.ofString "wires")]
noncomputable def t5:{b:List Stmt // ao dI=b}:=by
 have e:ao dI=ao dI:=rfl
 conv at e=>rhs;whnf
 exact⟨_,e⟩
noncomputable def kh:{b:Scope // ag dI=b}:=by
 have e:ag dI=ag dI:=rfl
 conv at e=>rhs;whnf
 exact⟨_,e⟩
theorem jI:ba ic [(Str.ofString "pot"),(Str.ofString "many")] kh.1:=⟨rfl,rfl,rfl,by decide+kernel,rfl,by decide+kernel,by decide+kernel⟩
noncomputable def lN:FZ:=(bu (cy 2 (D1 (xP (eNew (dN (ay (eC (.str (Str.ofString "not"))) (ay (eC (.str (Str.ofString "and"))) (ay (eC (.str (Str.ofString "or"))) (ay (eC (.str (Str.ofString "xor"))) (ay (eC (.str (Str.ofString "vote"))) (ay (eC (.str (Str.ofString "and"))) (ay (eC (.str (Str.ofString "or"))) (ay (eC (.str (Str.ofString "xor"))) aV))))))))))) (bQ aI (av (bK 0) (av (xP (eC (.int 8))) bU))))) (bu (cy 3 (xP (EU [((Sum.inr (Str.ofString "not"):Key),V.int 1),((Sum.inr (Str.ofString "vote"):Key),V.int 3)] (ah 2) (eC (.int 2))))) (bu (cy 4 (jJ (iP (iZ (ah 3))) (iG 0) yI (x2 nq (xP (e2 nq (ah 2) (eC (.int 1)))) (bQ aI (av (bK 1) (av (xP (e2 c0 (eNew (dN (ay (ah 2) (ay (aX pG (ay (ah 2) (ay (eC (.int 4)) aV))) aV)))) (e2 jY (ah 0) (eC (.int 2))))) bU)))) [(Str.ofString "k")] [0,1])) (gG (xP (eW (ay (ah 2) (ay (aX fI (ay (ah 4) aV)) aV))))))))
noncomputable def nO:List V3→aH→R3 V3:=lL ic lN
noncomputable def gy:List V3→aH→R3 V3:=mP ic lN
theorem wm{P:Program}{w:World}{K:PySem.W.Frag}{mg:Str→Option Value}{base:Heap}{cl:Nat→Addr}(T:Tp K mg cl)(h:Def K mg (Str.ofString "_law_gate") dI)(XP_law_next:aF P w K mg base cl 1 (Str.ofString "_law_next") 2 aI):aF P w K mg base cl 2 (Str.ofString "_law_gate") 2 nO:=by
 obtain⟨f,fd,F,hm⟩:=h
 exact⟨f,fd,_,cj (k:=1) t5.2 kh.2 F jI (fun cdv A outer s H E hr=>(au (bq jI.nd rfl (Or.inl rfl) (x9 (ai (bV (bO (af bR (af bR (af bR (af bR (af bR (af bR (af bR (af bR aq))))))))))) (bg XP_law_next hr (by decide) rfl (ab (aL 0) (ab (ai ak) aD)) (ae (ae aG))) (fun _ _=>rfl))) (au (bq jI.nd rfl (Or.inl rfl) (ai (CH (GP hr) (mq px pq (mq px pq x_)) rfl rfl (by simp) (fun _ _ _ h=>h) (by decide) (aa 2) ak ⟨rfl,rfl,rfl,rfl⟩ (C3 (mq px pq (mq px pq x_)) rfl rfl (by simp) (by decide))))) (au (lF rfl jI.nd rfl rfl (ck.of (own:=[(Str.ofString "k")]) (kp:=[0,1]) (kn:=[(Str.ofString "pot"),(Str.ofString "many")]) (sc:=kh.1) (N:=ic) rfl rfl (by decide+kernel)) (dg (eZ (aa 3) rfl T.z_range)) (fun _ _ _=>(aW (show List.Nodup [(Str.ofString "k"),(Str.ofString "pot"),(Str.ofString "many")] from by decide+kernel) rfl (Or.inl rfl))) (fun _ _ _=>kK) (fun _ _ _=>(tH uD (ai (aM uD (aa 2) ak)) (bg XP_law_next hr (by decide) rfl (ab (aL 1) (ab (ai (aU (bV (bO (af (aa 2) (af (br (wL rfl) rfl T.z_min PyProof.Rows.boot_min (af (aa 2) (af ak aq))) aq)))) (aM pI (aa 0) ak) (fun _ _=>rfl))) aD)) (ae (ae aG)))))) (aK (cN (ai (cY (af (aa 2) (af (jo mE rfl T.z_tuple PyProof.Rows.boot_tuple (af (aa 4) aq)) aq)))))))))),hm,F.kp,F.binds fun _ _ _ _ _ _ us hl=>match us,hl with | [_,_],_=>rfl⟩
noncomputable abbrev dC:Stmt:=top 28
noncomputable abbrev ik:List Str:=[(Str.ofString "pot"),(Str.ofString "like"),(Str.ofString "wire"),(Str.ofString "same")]
noncomputable def t7:{b:List Stmt // ao dC=b}:=by
 have e:ao dC=ao dC:=rfl
 conv at e=>rhs;whnf
 exact⟨_,e⟩
noncomputable def kG:{b:Scope // ag dC=b}:=by
 have e:ag dC=ag dC:=rfl
 conv at e=>rhs;whnf
 exact⟨_,e⟩
theorem pB:ba ik [(Str.ofString "pot"),(Str.ofString "like"),(Str.ofString "wire")] kG.1:=⟨rfl,rfl,rfl,by decide+kernel,rfl,by decide+kernel,by decide+kernel⟩
noncomputable def lg:FZ:=(bu (cy 3 (jJ (lX (xT (aX eP (ay (ah 1) aV)))) (iG 0) (bT (b2 jl (e2 c0 (ah 1) (ah 0)) (e2 c0 (ah 1) (ah 2)))) (xP (ah 0)) [(Str.ofString "one")] [1,2])) (gG (D1 (xP (ah 3)) (bQ aI (av (bK 0) (av (xP (aX eP (ay (ah 3) aV))) bU))))))
noncomputable def nH:List V3→aH→R3 V3:=lL ik lg
noncomputable def dh:List V3→aH→R3 V3:=mP ik lg
theorem vn{P:Program}{w:World}{K:PySem.W.Frag}{mg:Str→Option Value}{base:Heap}{cl:Nat→Addr}(T:Tp K mg cl)(h:Def K mg (Str.ofString "_law_twin") dC)(XP_law_next:aF P w K mg base cl 1 (Str.ofString "_law_next") 2 aI):aF P w K mg base cl 2 (Str.ofString "_law_twin") 3 nH:=by
 obtain⟨f,fd,F,hm⟩:=h
 exact⟨f,fd,_,cj (k:=1) t7.2 kG.2 F pB (fun cdv A outer s H E hr=>(au (lF rfl pB.nd rfl rfl (ck.of (own:=[(Str.ofString "one")]) (kp:=[1,2]) (kn:=[(Str.ofString "like"),(Str.ofString "wire")]) (sc:=kG.1) (N:=ik) rfl rfl (by decide+kernel)) (ia (dc (br e_ rfl T.z_len PySem.boot_len (af (aa 1) aq))) rfl T.z_range) (fun _ _ _=>(aW (show List.Nodup [(Str.ofString "one"),(Str.ofString "like"),(Str.ofString "wire")] from by decide+kernel) rfl (Or.inl rfl))) (fun _ _ _=>(t9 (mD (bB (ja hr.units) (aU (aa 1) (aa 0) (fun _ _=>rfl)) (aU (aa 1) (aa 2) (fun _ _=>rfl)) (cv _))))) (fun _ _ _=>(ai (aa 0)))) (aK (cN (x9 (ai (aa 3)) (bg XP_law_next hr (by decide) rfl (ab (aL 0) (ab (ai (br e_ rfl T.z_len PySem.boot_len (af (aa 3) aq))) aD)) (ae (ae aG))) (fun _ _=>rfl)))))),hm,F.kp,F.binds fun _ _ _ _ _ _ us hl=>match us,hl with | [_,_,_],_=>rfl⟩
noncomputable abbrev cm:Stmt:=top 29
noncomputable abbrev ei:List Str:=[(Str.ofString "pot"),(Str.ofString "most"),(Str.ofString "gates"),(Str.ofString "wide"),(Str.ofString "ins"),(Str.ofString "like"),(Str.ofString "k"),(Str.ofString "name"),(Str.ofString "width"),(Str.ofString "heard"),(Str.ofString "first"),(Str.ofString "kind"),(Str.ofString "wires"),(Str.ofString "mark"),(Str.ofString "place"),(Str.ofString "outs"),(Str.ofString "wire")]
noncomputable def oi:{b:List Stmt // ao cm=b}:=by
 have e:ao cm=ao cm:=rfl
 conv at e=>rhs;whnf
 exact⟨_,e⟩
noncomputable def gI:{b:Scope // ag cm=b}:=by
 have e:ag cm=ag cm:=rfl
 conv at e=>rhs;whnf
 exact⟨_,e⟩
theorem aA:ba ei [(Str.ofString "pot"),(Str.ofString "most"),(Str.ofString "gates"),(Str.ofString "wide")] gI.1:=⟨rfl,rfl,rfl,by decide+kernel,rfl,by decide+kernel,by decide+kernel⟩
noncomputable def jd:FZ:=(Bv 5 (xP (eNew (Ds (dN (ay (ah 6) aV)) (ah 8)))))
noncomputable def fV:FZ:=(bu (Cg (bQ gy (av (bK 0) (av (xT (aX eP (ay (ah 5) aV))) bU))) (uT 2 (oF (iG 11) (oF (iG 12) u6)))) (bu (cy 13 (xP (e2 f7 (aX eP (ay (ah 4) aV)) (ah 6)))) (bu (sV (Dm (bT (b2 sC (ah 9) (eNew (dN aV)))) (HX jl (bQ aI (av (bK 0) (av (xP (eC (.int 3))) bU))) (xP (eC (.int 0))))) (bu (cy 14 (bQ aI (av (bK 0) (av (xT (aX eP (ay (ah 9) aV))) bU)))) (bu (Cg (xT (CN (e2 c0 (ah 9) (ah 14)) iz (gq (eC (.int 2))))) (uT 2 (oF (iG 11) (oF (iG 12) u6)))) (bu (cy 12 (jA fI (av (jJ (iP (dz (ah 12))) (iG 0) yI (bQ dh (av (bK 1) (av (bK 2) (av (xP (ah 0)) bU)))) [(Str.ofString "wire")] [0,5]) bU))) (cy 13 (xT (e2 c0 (ah 5) (e2 f7 (ah 10) (ah 14)))))))) ku) (bu (lT 9 (uq (av (xP (ah 11)) (av (xP (ah 12)) (av (x2 jl (bQ aI (av (bK 0) (av (xP (eC (.int 6))) bU))) (xP (eC (.int 0)))) bU))))) (lT 5 (xP (ah 13)))))))
noncomputable def fX:FZ:=(bu (cy 16 (x2 nq (xT (e2 nq (aX eP (ay (ah 5) aV)) (eC (.int 1)))) (bQ aI (av (bK 0) (av (xT (aX pG (ay (aX eP (ay (ah 5) aV)) (ay (eC (.int 5)) aV)))) bU))))) (bu (cy 12 (xP (eW (ay (ah 16) aV)))) (bu (cy 8 (bQ aI (av (bK 0) (av (xP (eC (.int 4))) bU)))) (bu (sV (bP (b2 jl (ah 8) (eC (.int 1)))) (cy 12 (uq (av (xP (ah 16)) (av (bQ dh (av (bK 0) (av (bK 5) (av (xP (ah 16)) bU)))) bU)))) ku) (bu (sV (bP (b2 jl (ah 8) (eC (.int 2)))) (cy 12 (uq (av (xP (ah 16)) (av (bQ dh (av (bK 0) (av (bK 5) (av (xP (ah 16)) bU)))) (av (bQ aI (av (bK 0) (av (xT (aX eP (ay (ah 5) aV))) bU))) bU))))) ku) (bu (sV (bP (b2 jl (ah 8) (eC (.int 3)))) (cy 12 (uq (av (xP (ah 16)) (av (bQ dh (av (bK 0) (av (bK 5) (av (xP (ah 16)) bU)))) (av (bQ dh (av (bK 0) (av (bK 5) (av (xP (ah 16)) bU)))) bU))))) ku) (lT 15 (xP (eW (ay (e2 c0 (eNew (dN (ay (eC (.str (Str.ofString "p"))) (ay (eC (.str (Str.ofString "ou"))) (ay (eC (.str (Str.ofString "result"))) aV))))) (ah 6)) (ay (ah 12) aV)))))))))))
noncomputable def g8:FZ:=(bu (cy 4 (bQ dO (av (bK 0) (av (xP (ah 1)) (av (xP (ah 3)) bU))))) (bu (cy 5 (lH (dN aV))) (bu (i0 (iP (eL (ah 4))) (uT 2 (oF (iG 6) (oF (uT 2 (oF (iG 7) (oF (iG 8) u6))) u6))) jd) (bu (cy 9 (lH (dN aV))) (bu (cy 10 (xT (aX eP (ay (ah 5) aV)))) (bu (i0 (lX (bQ aI (av (bK 0) (av (xP (e2 f7 (ah 2) (eC (.int 1)))) bU)))) (iG 6) fV) (bu (cy 15 (lH (dN aV))) (bu (i0 (lX (x2 f7 (xP (eC (.int 1))) (bQ aI (av (bK 0) (av (xP (eC (.int 3))) bU))))) (iG 6) fX) (gG (uq (av (bK 4) (av (bK 9) (av (bK 15) bU)))))))))))))
noncomputable def jK:List V3→aH→R3 V3:=lL ei g8
noncomputable def eS:List V3→aH→R3 V3:=mP ei g8
theorem pV{P:Program}{w:World}{K:PySem.W.Frag}{mg:Str→Option Value}{base:Heap}{cl:Nat→Addr}(T:Tp K mg cl)(h:Def K mg (Str.ofString "_law_some_net") cm)(XP_law_some_ins:aF P w K mg base cl 2 (Str.ofString "_law_some_ins") 3 dO)(XP_law_next:aF P w K mg base cl 1 (Str.ofString "_law_next") 2 aI)(XP_law_gate:aF P w K mg base cl 2 (Str.ofString "_law_gate") 2 gy)(XP_law_twin:aF P w K mg base cl 2 (Str.ofString "_law_twin") 3 dh):aF P w K mg base cl 3 (Str.ofString "_law_some_net") 4 jK:=by
 obtain⟨f,fd,F,hm⟩:=h
 exact⟨f,fd,_,cj (k:=2) oi.2 gI.2 F aA (fun cdv A outer s H E hr=>(au (bq aA.nd rfl (Or.inl rfl) (bg XP_law_some_ins hr (by decide) rfl (ab (aL 0) (ab (ai (aa 1)) (ab (ai (aa 3)) aD))) (ae (ae (ae aG))))) (au (bq aA.nd rfl (Or.inr rfl) (fW (bO aq))) (au (d6 PassesOwn.never rfl (dg (jh (aa 4) rfl T.z_enumerate)) (iL rfl (cq (aW aA.nd rfl (Or.inl rfl)) (cq (iL rfl (cq (aW aA.nd rfl (Or.inl rfl)) (cq (aW aA.nd rfl (Or.inl rfl)) gB))) gB))) (aK (D7 rfl (Or.inr (Or.inl rfl)) (ai (bV (Cz (bO (af (aa 6) aq)) (aa 8))))))) (au (bq aA.nd rfl (Or.inl rfl) (fW (bO aq))) (au (bq aA.nd rfl (Or.inl rfl) (dc (br e_ rfl T.z_len PySem.boot_len (af (aa 5) aq)))) (au (d6 PassesOwn.never rfl (ia (bg XP_law_next hr (by decide) rfl (ab (aL 0) (ab (ai (aM hW (aa 2) ak)) aD)) (ae (ae aG))) rfl T.z_range) (aW aA.nd rfl (Or.inl rfl)) (au (zJ (bg XP_law_gate hr (by decide) rfl (ab (aL 0) (ab (dc (br e_ rfl T.z_len PySem.boot_len (af (aa 5) aq))) aD)) (ae (ae aG))) (iL rfl (cq (aW aA.nd rfl (Or.inl rfl)) (cq (aW aA.nd rfl (Or.inl rfl)) gB)))) (au (bq aA.nd rfl (Or.inl rfl) (ai (aM hW (br e_ rfl T.z_len PySem.boot_len (af (aa 4) aq)) (aa 6)))) (au (i5 (D9.pb (wQ (mD (bB (Ab hr.units) (aa 9) (bV (bO aq)) (cv _))) (ud (xy (ja hr.units) (bg XP_law_next hr (by decide) rfl (ab (aL 0) (ab (ai ak) aD)) (ae (ae aG))) (ai ak) (cv _))))) (au (bq aA.nd rfl (Or.inl rfl) (bg XP_law_next hr (by decide) rfl (ab (aL 0) (ab (dc (br e_ rfl T.z_len PySem.boot_len (af (aa 9) aq))) aD)) (ae (ae aG)))) (au (zJ (dc (Dh (aU (aa 9) (aa 14) (fun _ _=>rfl)) jW (kz ak))) (iL rfl (cq (aW aA.nd rfl (Or.inl rfl)) (cq (aW aA.nd rfl (Or.inl rfl)) gB)))) (au (bq aA.nd rfl (Or.inl rfl) (yW mE rfl T.z_tuple PyProof.Rows.boot_tuple (ab (so rfl (ck.of (own:=[(Str.ofString "wire")]) (kp:=[0,5]) (kn:=[(Str.ofString "pot"),(Str.ofString "like")]) (sc:=gI.1) (N:=ei) rfl rfl (by decide+kernel)) (dg (cw (aa 12))) (fun _ _ _=>(aW (show List.Nodup [(Str.ofString "wire"),(Str.ofString "pot"),(Str.ofString "like")] from by decide+kernel) rfl (Or.inl rfl))) (fun _ _ _=>kK) (fun _ _ _=>(bg XP_law_twin hr (by decide) rfl (ab (aL 1) (ab (aL 2) (ab (ai (aa 0)) aD))) (ae (ae (ae aG)))))) aD))) (aK (bq aA.nd rfl (Or.inl rfl) (dc (aU (aa 5) (aM hW (aa 10) (aa 14)) (fun _ _=>rfl)))))))) eR) (au (iV rfl (Or.inl rfl) (mU (ab (ai (aa 11)) (ab (ai (aa 12)) (ab (EH (ja hr.units) (bg XP_law_next hr (by decide) rfl (ab (aL 0) (ab (ai ak) aD)) (ae (ae aG))) (ai ak) (cv _)) aD))))) (aK (iV rfl (Or.inr (Or.inl rfl)) (ai (aa 13))))))))) (au (bq aA.nd rfl (Or.inl rfl) (fW (bO aq))) (au (d6 PassesOwn.never rfl (ia (tH hW (ai ak) (bg XP_law_next hr (by decide) rfl (ab (aL 0) (ab (ai ak) aD)) (ae (ae aG)))) rfl T.z_range) (aW aA.nd rfl (Or.inl rfl)) (au (bq aA.nd rfl (Or.inl rfl) (tH uD (dc (aM uD (br e_ rfl T.z_len PySem.boot_len (af (aa 5) aq)) ak)) (bg XP_law_next hr (by decide) rfl (ab (aL 0) (ab (dc (br (wL rfl) rfl T.z_min PyProof.Rows.boot_min (af (br e_ rfl T.z_len PySem.boot_len (af (aa 5) aq)) (af ak aq)))) aD)) (ae (ae aG))))) (au (bq aA.nd rfl (Or.inl rfl) (ai (cY (af (aa 16) aq)))) (au (bq aA.nd rfl (Or.inl rfl) (bg XP_law_next hr (by decide) rfl (ab (aL 0) (ab (ai ak) aD)) (ae (ae aG)))) (au (i5 (fF (bB (ja hr.units) (aa 8) ak (cv _))) (aK (bq aA.nd rfl (Or.inl rfl) (mU (ab (ai (aa 16)) (ab (bg XP_law_twin hr (by decide) rfl (ab (aL 0) (ab (aL 5) (ab (ai (aa 16)) aD))) (ae (ae (ae aG)))) aD))))) eR) (au (i5 (fF (bB (ja hr.units) (aa 8) ak (cv _))) (aK (bq aA.nd rfl (Or.inl rfl) (mU (ab (ai (aa 16)) (ab (bg XP_law_twin hr (by decide) rfl (ab (aL 0) (ab (aL 5) (ab (ai (aa 16)) aD))) (ae (ae (ae aG)))) (ab (bg XP_law_next hr (by decide) rfl (ab (aL 0) (ab (dc (br e_ rfl T.z_len PySem.boot_len (af (aa 5) aq))) aD)) (ae (ae aG))) aD)))))) eR) (au (i5 (fF (bB (ja hr.units) (aa 8) ak (cv _))) (aK (bq aA.nd rfl (Or.inl rfl) (mU (ab (ai (aa 16)) (ab (bg XP_law_twin hr (by decide) rfl (ab (aL 0) (ab (aL 5) (ab (ai (aa 16)) aD))) (ae (ae (ae aG)))) (ab (bg XP_law_twin hr (by decide) rfl (ab (aL 0) (ab (aL 5) (ab (ai (aa 16)) aD))) (ae (ae (ae aG)))) aD)))))) eR) (aK (iV rfl (Or.inl rfl) (ai (cY (af (aU (bV (bO (af bR (af bR (af bR aq))))) (aa 6) (fun _ _=>rfl)) (af (aa 12) aq))))))))))))) (aK (cN (mU (ab (aL 4) (ab (aL 9) (ab (aL 15) aD))))))))))))))),hm,F.kp,F.binds fun _ _ _ _ _ _ us hl=>match us,hl with | [_,_,_,_],_=>rfl⟩
noncomputable abbrev cQ:Stmt:=top 30
noncomputable abbrev ju:List Str:=[(Str.ofString "many"),(Str.ofString "found"),(Str.ofString "k"),(Str.ofString "longer"),(Str.ofString "bits")]
noncomputable def qe:{b:List Stmt // ao cQ=b}:=by
 have e:ao cQ=ao cQ:=rfl
 conv at e=>rhs;whnf
 exact⟨_,e⟩
noncomputable def k9:{b:Scope // ag cQ=b}:=by
 have e:ag cQ=ag cQ:=rfl
 conv at e=>rhs;whnf
 exact⟨_,e⟩
theorem dG:ba ju [(Str.ofString "many")] k9.1:=⟨rfl,rfl,rfl,by decide+kernel,rfl,by decide+kernel,by decide+kernel⟩
noncomputable def g9:FS:=(jE 3 (e2 jg (ah 3) (eNew (dN (ay (e2 jg (ah 4) (eW (ay (eC (.int 0)) aV))) (ay (e2 jg (ah 4) (eW (ay (eC (.int 1)) aV))) aV))))))
noncomputable def ix:FS:=(eV (jE 3 (eNew (dN aV))) (eV (si (dz (ah 1)) (bb 4) g9) (jE 1 (ah 3))))
noncomputable def mH:FS:=(eV (jE 1 (eNew (dN (ay (eW aV) aV)))) (eV (si (iZ (ah 0)) (bb 2) ix) (eY (ah 1))))
noncomputable def eH:List D→R D:=mW ju mH
theorem sx{P:Program}{w:World}{K:PySem.W.Frag}{mg:Str→Option Value}{base:Heap}{cl:Nat→Addr}(T:Tp K mg cl)(h:Def K mg (Str.ofString "_law_inputs") cQ):Callee P w K mg base 1 (Str.ofString "_law_inputs") 1 eH:=by
 obtain⟨f,fd,F,hm⟩:=h
 exact⟨f,fd,_,c9 (k:=0) qe.2 k9.2 F dG (fun cdv A outer s H E hr=>(bX (iA dG.nd rfl (Or.inl rfl) (bV (bO (af (cY aq) aq)))) (bX (j2 PassesOwn.never rfl (eZ (aa 0) rfl T.z_range) (bz dG.nd rfl (Or.inl rfl)) (bX (iA dG.nd rfl (Or.inl rfl) (bV (bO aq))) (bX (j2 PassesOwn.never rfl (cw (aa 1)) (bz dG.nd rfl (Or.inl rfl)) (bx (iA dG.nd rfl (Or.inl rfl) (aM lC (aa 3) (bV (bO (af (aM lC (aa 4) (cY (af ak aq))) (af (aM lC (aa 4) (cY (af ak aq))) aq)))))))) (bx (iA dG.nd rfl (Or.inl rfl) (aa 3)))))) (bx (bZ (aa 1)))))),hm,F.kp,F.binds fun _ _ _ _ _ _ us hl=>match us,hl with | [_],_=>rfl⟩
noncomputable abbrev cO:Stmt:=top 31
noncomputable abbrev gQ:List Str:=[(Str.ofString "net"),(Str.ofString "some"),(Str.ofString "level"),(Str.ofString "bits"),(Str.ofString "due"),(Str.ofString "got"),(Str.ofString "right"),(Str.ofString "tells")]
noncomputable def qr:{b:List Stmt // ao cO=b}:=by
 have e:ao cO=ao cO:=rfl
 conv at e=>rhs;whnf
 exact⟨_,e⟩
noncomputable def kY:{b:Scope // ag cO=b}:=by
 have e:ag cO=ag cO:=rfl
 conv at e=>rhs;whnf
 exact⟨_,e⟩
theorem eB:ba gQ [(Str.ofString "net"),(Str.ofString "some"),(Str.ofString "level")] kY.1:=⟨rfl,rfl,rfl,by decide+kernel,rfl,by decide+kernel,by decide+kernel⟩
noncomputable def kx:FZ:=(bu (cy 6 (xP (aX lK (ay (ah 4) aV)))) (bu (cy 7 (xP (aX lK (ay (ah 5) aV)))) (sV (bP (om (b2 sC (ah 7) (ah 6)) (vP (b2 jl (ah 2) (eC (.str (Str.ofString "right")))) (b2 AR (ah 7) (eC .cK))))) (gG (xP (eC (.bl true)))) ku)))
noncomputable def kF:FZ:=(i0 (Ck (bQ m8 (av (xP (ah 0)) (av (xP (ah 3)) (av (xP (eW aV)) (av (xP (eW aV)) bU))))) (bQ m8 (av (xP (ah 0)) (av (xP (ah 3)) (av (xP (ah 1)) (av (xP (eW aV)) bU)))))) (uT 2 (oF (iG 4) (oF (iG 5) u6))) kx)
noncomputable def jy:FZ:=(bu (i0 (iP (dz (aX eH (ay (aX eP (ay (e2 c0 (ah 0) (eC (.int 0))) aV)) aV)))) (iG 3) kF) (gG (xP (eC (.bl false)))))
noncomputable def k6:List V3→aH→R3 V3:=lL gQ jy
noncomputable def dQ:List V3→aH→R3 V3:=mP gQ jy
theorem rP{P:Program}{w:World}{K:PySem.W.Frag}{mg:Str→Option Value}{base:Heap}{cl:Nat→Addr}(T:Tp K mg cl)(h:Def K mg (Str.ofString "_law_spoilt") cO)(C_law_inputs:Callee P w K mg base 1 (Str.ofString "_law_inputs") 1 eH)(C_told:Callee P w K mg base 3 (Str.ofString "told") 1 lK)(XP_run:aF P w K mg base cl 4 (Str.ofString "run") 4 m8):aF P w K mg base cl 5 (Str.ofString "_law_spoilt") 3 k6:=by
 obtain⟨f,fd,F,hm⟩:=h
 exact⟨f,fd,_,cj (k:=4) qr.2 kY.2 F eB (fun cdv A outer s H E hr=>(au (d6 PassesOwn.never rfl (dg (cw (b_ C_law_inputs hr (by decide) rfl (af (br e_ rfl T.z_len PySem.boot_len (af (aU (aa 0) ak (fun _ _=>rfl)) aq)) aq) (a_ cA)))) (aW eB.nd rfl (Or.inl rfl)) (aK (d6 PassesOwn.never rfl (x8 (bg XP_run hr (by decide) rfl (ab (ai (aa 0)) (ab (ai (aa 3)) (ab (ai (cY aq)) (ab (ai (cY aq)) aD)))) (ae (ae (ae (ae aG))))) (bg XP_run hr (by decide) rfl (ab (ai (aa 0)) (ab (ai (aa 3)) (ab (ai (aa 1)) (ab (ai (cY aq)) aD)))) (ae (ae (ae (ae aG))))) rfl T.z_zip) (iL rfl (cq (aW eB.nd rfl (Or.inl rfl)) (cq (aW eB.nd rfl (Or.inl rfl)) gB))) (au (bq eB.nd rfl (Or.inl rfl) (ai (b_ C_told hr (by decide) rfl (af (aa 4) aq) (a_ cA)))) (au (bq eB.nd rfl (Or.inl rfl) (ai (b_ C_told hr (by decide) rfl (af (aa 5) aq) (a_ cA)))) (aK (i5 (fF (sL (BC (bB (Ab hr.units) (aa 7) (aa 6) (cv _)) (zd (sL (xR (bB (ja hr.units) (aa 2) bR (cv _)) (um (bB HD (aa 7) xS (cv _))))))))) (aK (cN (ai lG))) eR))))))) (aK (cN (ai lG))))),hm,F.kp,F.binds fun _ _ _ _ _ _ us hl=>match us,hl with | [_,_,_],_=>rfl⟩
noncomputable abbrev nX:Stmt:=top 32
noncomputable abbrev jZ:List Str:=[(Str.ofString "script"),(Str.ofString "pots"),(Str.ofString "pot"),(Str.ofString "net"),(Str.ofString "many"),(Str.ofString "level"),(Str.ofString "free"),(Str.ofString "sets"),(Str.ofString "some"),(Str.ofString "place"),(Str.ofString "one"),(Str.ofString "left"),(Str.ofString "drawn"),(Str.ofString "k"),(Str.ofString "within")]
noncomputable def FV:{b:List Stmt // ao nX=b}:=by
 have e:ao nX=ao nX:=rfl
 conv at e=>rhs;whnf
 exact⟨_,e⟩
noncomputable def nv:{b:Scope // ag nX=b}:=by
 have e:ag nX=ag nX:=rfl
 conv at e=>rhs;whnf
 exact⟨_,e⟩
theorem ig:ba jZ [(Str.ofString "script")] nv.1:=⟨rfl,rfl,rfl,by decide+kernel,rfl,by decide+kernel,by decide+kernel⟩
noncomputable def xA:FZ:=(sV (yB (bQ dQ (av (xP (ah 3)) (av (xP (aX fI (ay (eNew (eK (dz (ah 8)) (bb 0) (b2 sC (ah 0) (ah 1)) (ah 0) [(Str.ofString "one")] [9])) aV))) (av (xP (ah 5)) bU))))) (gG (xP (eC (.bl false)))) ku)
noncomputable def rG:FZ:=(bu (sV (bP (vP (b2 CW (aX eP (ay (ah 8) aV)) (ah 4)) (b2 sC (eNew (eK (dz (ah 8)) (bb 0) (b2 fG (ah 0) (ah 1)) (ah 0) [(Str.ofString "place")] [6])) (eNew (dN aV))))) (gG (xP (eC (.bl false)))) ku) (bu (sV (EO (yB (bQ dQ (av (xP (ah 3)) (av (xP (ah 8)) (av (xP (ah 5)) bU)))))) (gG (xP (eC (.bl false)))) ku) (i0 (iP (dz (ah 8))) (iG 9) xA)))
noncomputable def sS:FZ:=(lT 12 (Bg 11 (bQ aI (av (bK 10) (av (xT (aX eP (ay (ah 11) aV))) bU)))))
noncomputable def rE:FZ:=(bu (cy 11 (lH (nList (ah 6)))) (bu (cy 12 (lH (dN aV))) (bu (i0 (lX (jA pG (av (bQ aI (av (bK 10) (av (xP (e2 f7 (ah 4) (eC (.int 1)))) bU))) (av (xP (aX eP (ay (ah 6) aV))) bU)))) (iG 13) sS) (bu (cy 14 (jJ (iP (dz (ah 7))) (iG 0) (bT (b2 jl (eNew (eK (dz (ah 0)) (bb 0) (b2 fG (ah 0) (ah 1)) (ah 0) [(Str.ofString "place")] [1])) (eNew (dN aV)))) (xP (ah 0)) [(Str.ofString "some")] [12])) (sV (Dm (bP (b2 jl (ah 14) (eNew (dN aV)))) (yB (bQ dQ (av (xP (ah 3)) (av (xT (aX fI (ay (aX oy (ay (ah 12) aV)) aV))) (av (xP (ah 5)) bU)))))) (gG (xP (eC (.bl false)))) ku)))))
noncomputable def qV:FZ:=(bu (cy 1 (bQ gr (av (xP (wy (ah 0) iz (gq (eC (.int 21))))) bU))) (bu (cy 2 (D1 (bK 1) (xP (eC (.int 0))))) (bu (cy 3 (bQ eS (av (bK 2) (av (xP (eC (.int 3))) (av (xP (eC (.int 7))) (av (xP (eC (.int 3))) bU)))))) (bu (cy 4 (bQ aI (av (bK 2) (av (xP (eC (.int 3))) bU)))) (bu (cy 5 (D1 (xP (eNew (dN (ay (eC (.str (Str.ofString "right"))) (ay (eC (.str (Str.ofString "safe"))) aV))))) (bQ aI (av (bK 2) (av (xP (eC (.int 2))) bU))))) (bu (cy 6 (xP (eNew (eK (eL (e2 c0 (ah 3) (eC (.int 1)))) (gz 2 (cI (bb 0) (cI (bb 1) gx))) (nA (lu (e2 c0 (ah 1) (eC (.int 2))))) (ah 0) [(Str.ofString "place"),(Str.ofString "gate")] [])))) (bu (cy 7 (bQ iR (av (xP (ah 3)) (av (xP (ah 4)) (av (xP (ah 5)) bU))))) (bu (i0 (iP (dz (wy (ah 7) iz (gq (eC (.int 12)))))) (iG 8) rG) (bu (i0 (y8 (Eo (bK 1) (vf (xP (eC (.int 1)))) wa)) (iG 10) rE) (gG (xP (eC (.bl true)))))))))))))
noncomputable def Ij:List V3→aH→R3 V3:=lL jZ qV
noncomputable def IC:List V3→aH→R3 V3:=mP jZ qV
noncomputable def xV:List D→R D:=HS jZ qV
structure Cf (K:PySem.W.Frag) (mg:Str→Option Value) (cl:Nat→Addr):Prop where
 C_Bench:sW K (cl 0)
 N_Bench_net:cT K (cl 0) (Str.ofString "net")
 N_Bench_many_inputs:cT K (cl 0) (Str.ofString "many_inputs")
 N_Bench_full:cT K (cl 0) (Str.ofString "full")
 N_Bench_in_masks:cT K (cl 0) (Str.ofString "in_masks")
 M_Bench:mg (Str.ofString "Bench")=some (.ref (cl 0))
 C_Trial:sW K (cl 1)
 N_Trial_bench:cT K (cl 1) (Str.ofString "bench")
 N_Trial_plain:cT K (cl 1) (Str.ofString "plain")
 N_Trial_unsure:cT K (cl 1) (Str.ofString "unsure")
 M_Trial:mg (Str.ofString "Trial")=some (.ref (cl 1))
 D_Bench___init__:yL K (cl 0) (Str.ofString "__init__") (Str.ofString "Bench.__init__") bp
 D_Bench_tells:sk K (cl 0) (Str.ofString "tells") (Str.ofString "Bench.tells") bA
 D_Bench_readings:sk K (cl 0) (Str.ofString "readings") (Str.ofString "Bench.readings") bh
 D_Trial___init__:yL K (cl 1) (Str.ofString "__init__") (Str.ofString "Trial.__init__") bj
 D_Trial_breaks_at:sk K (cl 1) (Str.ofString "breaks_at") (Str.ofString "Trial.breaks_at") aY
theorem GZ{K:PySem.W.Frag}{h:Heap}{mg:Str→Option Value}(X:K.In h)(G:h.Ns mainGlobals mg){C0:Addr}{C1:Addr}{f0:Addr}{od0 an0:Option Addr}{sl0:Array (Option Value)}{oc0 kV0 dc0 pm0 cd0 ct0:Value}{f1:Addr}{od1 an1:Option Addr}{sl1:Array (Option Value)}{oc1 kV1 dc1 pm1 cd1 ct1:Value}{f2:Addr}{od2 an2:Option Addr}{sl2:Array (Option Value)}{oc2 kV2 dc2 pm2 cd2 ct2:Value}{f3:Addr}{od3 an3:Option Addr}{sl3:Array (Option Value)}{oc3 kV3 dc3 pm3 cd3 ct3:Value}{f4:Addr}{od4 an4:Option Addr}{sl4:Array (Option Value)}{oc4 kV4 dc4 pm4 cd4 ct4:Value}(aC0:PySem.W.nsIn K mainGlobals (Str.ofString "Bench")=some (some (.ref C0)))(pg0:PySem.W.plainGet K C0 Str.empty=true)(hd0:PySem.W.hasDictIn K C0=true)(po0:PySem.W.plainOver K C0=true)(sa0:PySem.W.findIn K (.ref C0) "__setattr__"=some (some (.builtin "object.__setattr__")))(mk0:PySem.W.makesIn K C0=true)(kc0:PySem.W.keepIn K (.ref C0)=true)(n0_net:PySem.W.findIn K (.ref C0) (Str.ofString "net")=some none)(n0_many_inputs:PySem.W.findIn K (.ref C0) (Str.ofString "many_inputs")=some none)(n0_full:PySem.W.findIn K (.ref C0) (Str.ofString "full")=some none)(n0_in_masks:PySem.W.findIn K (.ref C0) (Str.ofString "in_masks")=some none)(aC1:PySem.W.nsIn K mainGlobals (Str.ofString "Trial")=some (some (.ref C1)))(pg1:PySem.W.plainGet K C1 Str.empty=true)(hd1:PySem.W.hasDictIn K C1=true)(po1:PySem.W.plainOver K C1=true)(sa1:PySem.W.findIn K (.ref C1) "__setattr__"=some (some (.builtin "object.__setattr__")))(mk1:PySem.W.makesIn K C1=true)(kc1:PySem.W.keepIn K (.ref C1)=true)(n1_bench:PySem.W.findIn K (.ref C1) (Str.ofString "bench")=some none)(n1_plain:PySem.W.findIn K (.ref C1) (Str.ofString "plain")=some none)(n1_unsure:PySem.W.findIn K (.ref C1) (Str.ofString "unsure")=some none)(a_Bench___init__:PySem.W.findIn K (.ref C0) (Str.ofString "__init__")=some (some (.ref f0)))(i_Bench___init__:PySem.W.isFn K (.ref f0)=true)(l_Bench___init__:K.lookup f0=some ⟨oc0,od0, .func (PySem.W.fnOf (Str.ofString "__init__") (Str.ofString "Bench.__init__") (gn bp) (ao bp) (ag bp) .none kV0 dc0 pm0 an0 cd0 ct0),sl0⟩)(dy:PySem.W.codeIn K cd0 (Str.ofString "Bench.__init__")=true)(k_Bench___init__:PySem.W.keepIn K (.ref f0)=true)(a_Bench_tells:PySem.W.findIn K (.ref C0) (Str.ofString "tells")=some (some (.ref f1)))(i_Bench_tells:PySem.W.isFn K (.ref f1)=true)(l_Bench_tells:K.lookup f1=some ⟨oc1,od1, .func (PySem.W.fnOf (Str.ofString "tells") (Str.ofString "Bench.tells") (gn bA) (ao bA) (ag bA) .none kV1 dc1 pm1 an1 cd1 ct1),sl1⟩)(eO:PySem.W.codeIn K cd1 (Str.ofString "Bench.tells")=true)(k_Bench_tells:PySem.W.keepIn K (.ref f1)=true)(a_Bench_readings:PySem.W.findIn K (.ref C0) (Str.ofString "readings")=some (some (.ref f2)))(i_Bench_readings:PySem.W.isFn K (.ref f2)=true)(l_Bench_readings:K.lookup f2=some ⟨oc2,od2, .func (PySem.W.fnOf (Str.ofString "readings") (Str.ofString "Bench.readings") (gn bh) (ao bh) (ag bh) .none kV2 dc2 pm2 an2 cd2 ct2),sl2⟩)(dv:PySem.W.codeIn K cd2 (Str.ofString "Bench.readings")=true)(k_Bench_readings:PySem.W.keepIn K (.ref f2)=true)(a_Trial___init__:PySem.W.findIn K (.ref C1) (Str.ofString "__init__")=some (some (.ref f3)))(i_Trial___init__:PySem.W.isFn K (.ref f3)=true)(l_Trial___init__:K.lookup f3=some ⟨oc3,od3, .func (PySem.W.fnOf (Str.ofString "__init__") (Str.ofString "Trial.__init__") (gn bj) (ao bj) (ag bj) .none kV3 dc3 pm3 an3 cd3 ct3),sl3⟩)(du:PySem.W.codeIn K cd3 (Str.ofString "Trial.__init__")=true)(k_Trial___init__:PySem.W.keepIn K (.ref f3)=true)(a_Trial_breaks_at:PySem.W.findIn K (.ref C1) (Str.ofString "breaks_at")=some (some (.ref f4)))(i_Trial_breaks_at:PySem.W.isFn K (.ref f4)=true)(l_Trial_breaks_at:K.lookup f4=some ⟨oc4,od4, .func (PySem.W.fnOf (Str.ofString "breaks_at") (Str.ofString "Trial.breaks_at") (gn aY) (ao aY) (ag aY) .none kV4 dc4 pm4 an4 cd4 ct4),sl4⟩)(di:PySem.W.codeIn K cd4 (Str.ofString "Trial.breaks_at")=true)(k_Trial_breaks_at:PySem.W.keepIn K (.ref f4)=true):∃cl,Cf K mg cl:=by
 exact⟨fun n=>if n=0 then C0 else C1,⟨pg0,hd0,po0,sa0⟩,n0_net,n0_many_inputs,n0_full,n0_in_masks,PySem.W.mg_of X G aC0,⟨pg1,hd1,po1,sa1⟩,n1_bench,n1_plain,n1_unsure,PySem.W.mg_of X G aC1,⟨_,_,mR (st:=bp) l_Bench___init__ dy k_Bench___init__,⟨mk0,a_Bench___init__,i_Bench___init__,kc0⟩⟩,⟨_,_,mR (st:=bA) l_Bench_tells eO k_Bench_tells,⟨a_Bench_tells,i_Bench_tells,k_Bench_tells⟩⟩,⟨_,_,mR (st:=bh) l_Bench_readings dv k_Bench_readings,⟨a_Bench_readings,i_Bench_readings,k_Bench_readings⟩⟩,⟨_,_,mR (st:=bj) l_Trial___init__ du k_Trial___init__,⟨mk1,a_Trial___init__,i_Trial___init__,kc1⟩⟩,⟨_,_,mR (st:=aY) l_Trial_breaks_at di k_Trial_breaks_at,⟨a_Trial_breaks_at,i_Trial_breaks_at,k_Trial_breaks_at⟩⟩⟩
theorem FC{P:Program}{w:World}{K:PySem.W.Frag}{mg:Str→Option Value}{base:Heap}{f:Addr}{fd:FuncData}{cl:Nat→Addr}(T:Tp K mg cl)(D_vote_of:Def K mg (Str.ofString "vote_of") eA)(D_gate_mask:Def K mg (Str.ofString "gate_mask") c_)(D_in_wire_masks:Def K mg (Str.ofString "in_wire_masks") bS)(D_masks_at:Def K mg (Str.ofString "masks_at") dH)(D_wire_masks:Def K mg (Str.ofString "wire_masks") cP)(D_out_masks:Def K mg (Str.ofString "out_masks") de)(D_run:Def K mg (Str.ofString "run") l8)(D_reading:Def K mg (Str.ofString "reading") eu)(D_bit_at:Def K mg (Str.ofString "bit_at") fN)(D_read_at:Def K mg (Str.ofString "read_at") et)(D_told:Def K mg (Str.ofString "told") jC)(D_all_inputs:Def K mg (Str.ofString "all_inputs") cL)(D_mask_of:Def K mg (Str.ofString "mask_of") eD)(D_in_mask:Def K mg (Str.ofString "in_mask") eF)(D_choices:Def K mg (Str.ofString "choices") eG)(D_has_all:Def K mg (Str.ofString "has_all") er)(D_Bench___init__:yL K (cl 0) (Str.ofString "__init__") (Str.ofString "Bench.__init__") bp)(D_Bench_tells:sk K (cl 0) (Str.ofString "tells") (Str.ofString "Bench.tells") bA)(D_Bench_readings:sk K (cl 0) (Str.ofString "readings") (Str.ofString "Bench.readings") bh)(D_Trial___init__:yL K (cl 1) (Str.ofString "__init__") (Str.ofString "Trial.__init__") bj)(D_Trial_breaks_at:sk K (cl 1) (Str.ofString "breaks_at") (Str.ofString "Trial.breaks_at") aY)(D_breaking:Def K mg (Str.ofString "breaking") dE)(D_law_next:Def K mg (Str.ofString "_law_next") dF)(D_law_pots:Def K mg (Str.ofString "_law_pots") dD)(D_law_some_ins:Def K mg (Str.ofString "_law_some_ins") cg)(D_law_gate:Def K mg (Str.ofString "_law_gate") dI)(D_law_twin:Def K mg (Str.ofString "_law_twin") dC)(D_law_some_net:Def K mg (Str.ofString "_law_some_net") cm)(D_law_inputs:Def K mg (Str.ofString "_law_inputs") cQ)(D_law_spoilt:Def K mg (Str.ofString "_law_spoilt") cO)(F:wR K (Str.ofString "law") (Str.ofString "law") nX f fd):gM P w K mg base qp 9 f fd [Str.ofString "script"] (AB K 1 xV):=by
 have C_vote_of:Callee P w K mg base 1 (Str.ofString "vote_of") 1 fu:=yy T D_vote_of
 have C_gate_mask:Callee P w K mg base 2 (Str.ofString "gate_mask") 3 fj:=u0 T D_gate_mask C_vote_of
 have XK_in_wire_masks:aF P w K mg base cl 1 (Str.ofString "in_wire_masks") 4 cS:=n4 T D_in_wire_masks
 have XP_in_wire_masks:aF P w K mg base cl 1 (Str.ofString "in_wire_masks") 4 m5:=XK_in_wire_masks.p
 have C_masks_at:Callee P w K mg base 1 (Str.ofString "masks_at") 2 d_:=vc T D_masks_at
 have XK_wire_masks:aF P w K mg base cl 3 (Str.ofString "wire_masks") 5 kR:=sJ T D_wire_masks C_masks_at C_gate_mask XK_in_wire_masks
 have XP_wire_masks:aF P w K mg base cl 3 (Str.ofString "wire_masks") 5 dm:=XK_wire_masks.p
 have XK_out_masks:aF P w K mg base cl 2 (Str.ofString "out_masks") 2 mK:=uh T D_out_masks C_masks_at
 have XP_out_masks:aF P w K mg base cl 2 (Str.ofString "out_masks") 2 dJ:=XK_out_masks.p
 have XK_run:aF P w K mg base cl 4 (Str.ofString "run") 4 zZ:=Gs T D_run XP_out_masks XP_wire_masks
 have XP_run:aF P w K mg base cl 4 (Str.ofString "run") 4 m8:=XK_run.p
 have C_reading:Callee P w K mg base 2 (Str.ofString "reading") 2 fg:=yo T D_reading C_vote_of
 have C_bit_at:Callee P w K mg base 1 (Str.ofString "bit_at") 2 fJ:=z_ T D_bit_at
 have C_read_at:Callee P w K mg base 2 (Str.ofString "read_at") 2 gT:=y4 T D_read_at C_bit_at
 have C_told:Callee P w K mg base 3 (Str.ofString "told") 1 lK:=Gb T D_told C_reading C_read_at
 have XK_all_inputs:aF P w K mg base cl 1 (Str.ofString "all_inputs") 1 kQ:=su T D_all_inputs
 have XP_all_inputs:aF P w K mg base cl 1 (Str.ofString "all_inputs") 1 eN:=XK_all_inputs.p
 have C_mask_of:Callee P w K mg base 1 (Str.ofString "mask_of") 1 fk:=y9 T D_mask_of
 have C_in_mask:Callee P w K mg base 2 (Str.ofString "in_mask") 2 gU:=zg T D_in_mask C_mask_of
 have C_choices:Callee P w K mg base 5 (Str.ofString "choices") 2 (dr 4):=qQ T D_choices 4
 have C_has_all:Callee P w K mg base 1 (Str.ofString "has_all") 2 fZ:=yM T D_has_all
 have XK_Bench___init__:pS P w K mg base cl 3 0 (Str.ofString "Bench") 1 cH:=dy T D_Bench___init__ C_mask_of C_in_mask XP_all_inputs
 have XK_Bench_tells:gE P w K mg base cl 4 0 (Str.ofString "tells") 2 ka:=eO T D_Bench_tells XP_out_masks XP_wire_masks
 have XP_Bench_tells:gE P w K mg base cl 4 0 (Str.ofString "tells") 2 ee:=XK_Bench_tells.p
 have XK_Bench_readings:gE P w K mg base cl 5 0 (Str.ofString "readings") 1 iO:=dv T D_Bench_readings C_reading XP_Bench_tells
 have XP_Bench_readings:gE P w K mg base cl 5 0 (Str.ofString "readings") 1 cn:=XK_Bench_readings.p
 have XK_Trial___init__:pS P w K mg base cl 6 1 (Str.ofString "Trial") 1 cG:=du T D_Trial___init__ XK_Bench___init__ XP_Bench_readings
 have XK_Trial_breaks_at:gE P w K mg base cl 6 1 (Str.ofString "breaks_at") 2 ie:=di T D_Trial_breaks_at XP_Bench_readings
 have XP_Trial_breaks_at:gE P w K mg base cl 6 1 (Str.ofString "breaks_at") 2 cW:=XK_Trial_breaks_at.p
 have XK_breaking:aF P w K mg base cl 8 (Str.ofString "breaking") 3 iU:=vm T D_breaking C_choices C_has_all XK_Trial___init__ XP_Trial_breaks_at
 have XP_breaking:aF P w K mg base cl 8 (Str.ofString "breaking") 3 iR:=XK_breaking.p
 have XK_law_next:aF P w K mg base cl 1 (Str.ofString "_law_next") 2 nT:=vG T D_law_next
 have XP_law_next:aF P w K mg base cl 1 (Str.ofString "_law_next") 2 aI:=XK_law_next.p
 have XK_law_pots:aF P w K mg base cl 1 (Str.ofString "_law_pots") 1 gr:=wO T D_law_pots
 have XP_law_pots:aF P w K mg base cl 1 (Str.ofString "_law_pots") 1 uw:=XK_law_pots.p
 have XK_law_some_ins:aF P w K mg base cl 2 (Str.ofString "_law_some_ins") 3 jL:=oY T D_law_some_ins XP_law_next
 have XP_law_some_ins:aF P w K mg base cl 2 (Str.ofString "_law_some_ins") 3 dO:=XK_law_some_ins.p
 have XK_law_gate:aF P w K mg base cl 2 (Str.ofString "_law_gate") 2 nO:=wm T D_law_gate XP_law_next
 have XP_law_gate:aF P w K mg base cl 2 (Str.ofString "_law_gate") 2 gy:=XK_law_gate.p
 have XK_law_twin:aF P w K mg base cl 2 (Str.ofString "_law_twin") 3 nH:=vn T D_law_twin XP_law_next
 have XP_law_twin:aF P w K mg base cl 2 (Str.ofString "_law_twin") 3 dh:=XK_law_twin.p
 have XK_law_some_net:aF P w K mg base cl 3 (Str.ofString "_law_some_net") 4 jK:=pV T D_law_some_net XP_law_some_ins XP_law_next XP_law_gate XP_law_twin
 have XP_law_some_net:aF P w K mg base cl 3 (Str.ofString "_law_some_net") 4 eS:=XK_law_some_net.p
 have C_law_inputs:Callee P w K mg base 1 (Str.ofString "_law_inputs") 1 eH:=sx T D_law_inputs
 have XK_law_spoilt:aF P w K mg base cl 5 (Str.ofString "_law_spoilt") 3 k6:=rP T D_law_spoilt C_law_inputs C_told XP_run
 have XP_law_spoilt:aF P w K mg base cl 5 (Str.ofString "_law_spoilt") 3 dQ:=XK_law_spoilt.p
 exact(cj (cl:=cl) (N:=jZ) (F:=qV) (k:=8) FV.2 nv.2 F ig (fun cdv A outer s H E hr=>(au (bq ig.nd rfl (Or.inl rfl) (bg XK_law_pots hr (by decide) rfl (ab (ai (rV (aa 0) jW (kz ak))) aD) (ae aG))) (au (bq ig.nd rfl (Or.inl rfl) (x9 (aL 1) (ai ak) (fun _ _=>rfl))) (au (bq ig.nd rfl (Or.inl rfl) (bg XP_law_some_net hr (by decide) rfl (ab (aL 2) (ab (ai ak) (ab (ai ak) (ab (ai ak) aD)))) (ae (ae (ae (ae aG)))))) (au (bq ig.nd rfl (Or.inl rfl) (bg XP_law_next hr (by decide) rfl (ab (aL 2) (ab (ai ak) aD)) (ae (ae aG)))) (au (bq ig.nd rfl (Or.inl rfl) (x9 (ai (bV (bO (af bR (af bR aq))))) (bg XP_law_next hr (by decide) rfl (ab (aL 2) (ab (ai ak) aD)) (ae (ae aG))) (fun _ _=>rfl))) (au (bq ig.nd rfl (Or.inr rfl) (ai (bV (dM rfl (ck.of (own:=[(Str.ofString "place"),(Str.ofString "gate")]) (kp:=[]) (kn:=[]) (sc:=nv.1) (N:=jZ) rfl rfl (by decide+kernel)) (jh (aU (aa 3) ak (fun _ _=>rfl)) rfl T.z_enumerate) (fun _ _ _=>(mO rfl (d4 (bz (show List.Nodup [(Str.ofString "place"),(Str.ofString "gate")] from by decide+kernel) rfl (Or.inl rfl)) (d4 (bz (show List.Nodup [(Str.ofString "place"),(Str.ofString "gate")] from by decide+kernel) rfl (Or.inl rfl)) kO)))) (fun _ _ _=>(ky (wW (rT (aU (aa 1) ak (fun _ _=>rfl)))))) (fun _ _ _=>(aa 0)))))) (au (bq ig.nd rfl (Or.inl rfl) (bg XP_breaking hr (by decide) rfl (ab (ai (aa 3)) (ab (ai (aa 4)) (ab (ai (aa 5)) aD))) (ae (ae (ae aG))))) (au (d6 PassesOwn.never rfl (dg (cw (rV (aa 7) jW (kz ak)))) (aW ig.nd rfl (Or.inl rfl)) (au (i5 (fF (sL (xR (bB IJ (br e_ rfl T.z_len PySem.boot_len (af (aa 8) aq)) (aa 4) (cv _)) (um (bB (Ab hr.units) (bV (dM rfl (ck.of (own:=[(Str.ofString "place")]) (kp:=[6]) (kn:=[(Str.ofString "free")]) (sc:=nv.1) (N:=jZ) rfl rfl (by decide+kernel)) (cw (aa 8)) (fun _ _ _=>(bz (show List.Nodup [(Str.ofString "place"),(Str.ofString "free")] from by decide+kernel) rfl (Or.inl rfl))) (fun _ _ _=>(ky (bB xf (aa 0) (aa 1) (by with_unfolding_all rfl)))) (fun _ _ _=>(aa 0)))) (bV (bO aq)) (cv _)))))) (aK (cN (ai lG))) eR) (au (i5 (Dy (oH (bg XP_law_spoilt hr (by decide) rfl (ab (ai (aa 3)) (ab (ai (aa 8)) (ab (ai (aa 5)) aD))) (ae (ae (ae aG)))))) (aK (cN (ai lG))) eR) (aK (d6 PassesOwn.never rfl (dg (cw (aa 8))) (aW ig.nd rfl (Or.inr rfl)) (aK (i5 (oH (bg XP_law_spoilt hr (by decide) rfl (ab (ai (aa 3)) (ab (ai (jo mE rfl T.z_tuple PyProof.Rows.boot_tuple (af (bV (dM rfl (ck.of (own:=[(Str.ofString "one")]) (kp:=[9]) (kn:=[(Str.ofString "place")]) (sc:=nv.1) (N:=jZ) rfl rfl (by decide+kernel)) (cw (aa 8)) (fun _ _ _=>(bz (show List.Nodup [(Str.ofString "one"),(Str.ofString "place")] from by decide+kernel) rfl (Or.inl rfl))) (fun _ _ _=>(ky (bB (Ab hr.units) (aa 0) (aa 1) (cv _)))) (fun _ _ _=>(aa 0)))) aq))) (ab (ai (aa 5)) aD))) (ae (ae (ae aG))))) (aK (cN (ai lG))) eR))))))) (au (d6 PassesOwn.never rfl (rQ (D8 (aL 1) (Am (ai ak)) AN)) (aW ig.nd rfl (Or.inl rfl)) (au (bq ig.nd rfl (Or.inl rfl) (fW (Aw (aa 6) rfl T.z_list))) (au (bq ig.nd rfl (Or.inr rfl) (fW (bO aq))) (au (d6 PassesOwn.never rfl (ia (Ad (wL rfl) rfl T.z_min PyProof.Rows.boot_min (ab (bg XP_law_next hr (by decide) rfl (ab (aL 10) (ab (ai (aM hW (aa 4) ak)) aD)) (ae (ae aG))) (ab (ai (br e_ rfl T.z_len PySem.boot_len (af (aa 6) aq))) aD))) rfl T.z_range) (aW ig.nd rfl (Or.inl rfl)) (aK (iV rfl (Or.inr (Or.inl rfl)) (Fq rfl (Or.inl rfl) (bg XP_law_next hr (by decide) rfl (ab (aL 10) (ab (dc (br e_ rfl T.z_len PySem.boot_len (af (aa 11) aq))) aD)) (ae (ae aG))))))) (au (lF rfl ig.nd rfl rfl (ck.of (own:=[(Str.ofString "some")]) (kp:=[12]) (kn:=[(Str.ofString "drawn")]) (sc:=nv.1) (N:=jZ) rfl rfl (by decide+kernel)) (dg (cw (aa 7))) (fun _ _ _=>(aW (show List.Nodup [(Str.ofString "some"),(Str.ofString "drawn")] from by decide+kernel) rfl (Or.inl rfl))) (fun _ _ _=>(t9 (mD (bB (ja hr.units) (bV (dM rfl (ck.of (own:=[(Str.ofString "place")]) (kp:=[1]) (kn:=[(Str.ofString "drawn")]) rfl rfl rfl) (cw (aa 0)) (fun _ _ _=>(bz (show List.Nodup [(Str.ofString "place"),(Str.ofString "drawn")] from by decide+kernel) rfl (Or.inl rfl))) (fun _ _ _=>(ky (bB xf (aa 0) (aa 1) (by with_unfolding_all rfl)))) (fun _ _ _=>(aa 0)))) (bV (bO aq)) (cv _))))) (fun _ _ _=>(ai (aa 0)))) (aK (i5 (D9.pb (wQ (fF (bB (ja hr.units) (aa 14) (bV (bO aq)) (cv _))) (ud (oH (bg XP_law_spoilt hr (by decide) rfl (ab (ai (aa 3)) (ab (dc (jo mE rfl T.z_tuple PyProof.Rows.boot_tuple (af (br Bn rfl T.z_sorted PyProof.Rows.boot_sorted (af (aa 12) aq)) aq))) (ab (ai (aa 5)) aD))) (ae (ae (ae aG)))))))) (aK (cN (ai lG))) eR))))))) (aK (cN (ai lG)))))))))))))).imp fun _ _ _ _ h=>FQ h
end K26
end
section
set_option maxRecDepth 100000
set_option maxHeartbeats 4000000
namespace K26
open PySem PySem.Spec PyProof.Rows L2 L3
theorem xN{S:aH}{k:Nat}{o x:SO}(h:S[k]? =some x):(S.set k o)[k]? =some o:=by
 obtain⟨h1,_⟩:=List.getElem?_eq_some_iff.mp h
 rw[List.getElem?_set_self h1]
noncomputable def sU(k:Nat)(S:aH):Prop:=Flat S∧∃a c,S[k]? =some (.lst [.int a, .int c])
structure Ev (k:Nat) (S S1:aH):Prop where
 p:sU k S1
 len:S1.length=S.length
 oth:∀j,j≠k→S1[j]? =S[j]?
theorem Ev.trans{k:Nat}{S S1 S2:aH}(a:Ev k S S1)(b:Ev k S1 S2):Ev k S S2:=⟨b.p,b.len.trans a.len,fun j h=>(b.oth j h).trans (a.oth j h)⟩
theorem sU.lt{k:Nat}{S:aH}(p:sU k S):k < S.length:=by
 obtain⟨_,a,c,e⟩:=p
 exact(List.getElem?_eq_some_iff.mp e).1
theorem ph(ds:List D):∀n,lq n (.lst ds)=true:=fun _=>rfl
theorem yd{S:aH}{k:Nat}{m:Int}(p:sU k S)(hm:0 < m)(hm2:m < 1000000){Q:V3→aH→Prop}
 (h:∀(r:Int) S1,0≤r→r < m→sU k S1→S1.length=S.length→(∀j,j≠k→S1[j]? =S[j]?)→Q (.d (.int r)) S1):W3 (aI [.loc k, .d (.int m)] S) Q:=by
 obtain⟨hL,a,c,e⟩:=p
 unfold aI
 refine qS (tT rfl ?_)
 simp only[bM,jD,List.map_cons,List.map_nil,List.length_cons,List.length_nil,List.replicate,List.cons_append,List.nil_append,Nat.reduceAdd,Nat.reduceSub]
 unfold lB
 refine aT (DP (xp (d:= .int (c+1)) ?_ rfl ?_))
 ·simp (implicitDefEqProofs:=false) (disch:=first | omega | decide) only[mW,cU,eV,jE,nC,n5,qb,vz,oP,eY,qo,jU,u9,ah,eC,e2,eNew,p8,aX,eW,xO,wy,Es,jG,wu,vE,Ff,wH,vZ,u7,qf,BK,b2,oI,om,vP,nA,lu,dN,nList,aV,ay,vQ,pQ,iz,gq,f7,nq,jR,jY,sr,oj,Ew,Fb,CW,C9,ny,uc,yK,lp,jl,sC,ue,fG,cInt,cStr,qi,fI,pY,eP,uJ,o4,bb,gz,cI,gx,i4,iE,r_,D.atom,tyName,R.aO,R.gb,List.map_cons,List.map_nil,List.map_append,List.set_cons_zero,List.set_cons_succ,List.getElem?_cons_zero,List.getElem?_cons_succ,List.length_cons,List.length_nil,List.nil_append,List.cons_append,List.append_nil,List.length_map,List.length_append,List.replicate,Nat.reduceAdd,Nat.reduceSub,Nat.zero_add,decide_true,decide_false,Nat.lt_add_one,Nat.reduceLT,Nat.reduceLeDiff,Nat.reduceEqDiff,if_true,if_false,Bool.false_eq_true,ite_true,ite_false,Bool.true_or,Bool.or_true,Bool.true_and,Bool.and_true,beq_self_eq_true,down,cD,res,lx,bM,fQ,kX,iG,uT,oF,u6,Option.map_some,Option.bind_some,eI,bW,pF,j3,iy,jF,cb,decide_eq_true_eq,Int.reduceToNat,e,c0,nK]
  rfl
 refine w_var (v:= .loc k) rfl (cB (d:= .int 1) rfl ⟨_,k,1,[.int a, .int c],1,rfl,rfl,rfl,e,rfl,_,rfl,?_⟩)
 simp only[List.set_cons_succ,List.set_cons_zero]
 have e1:(S.set k (.lst [.int a, .int (c+1)]))[k]? =some (.lst [.int a, .int (c+1)]):=xN e
 have hL1:Flat (S.set k (.lst [.int a, .int (c+1)])):=hL.set _ (ph _)
 have hl1:(S.set k (.lst [.int a, .int (c+1)])).length=S.length:=List.length_set
 have ho:∀j,j≠k→(S.set k (.lst [.int a, .int (c+1)]))[j]? =S[j]?:=fun j hj=>List.getElem?_set_ne (Ne.symm hj)
 generalize S.set k (.lst [.int a, .int (c+1)])=S1 at e1 hL1 hl1 ho
 refine aT (bF (by simp only[List.length_cons,List.length_nil,List.length_set];omega) (xp (d:= .int a) ?_ rfl ⟨_,rfl,?_⟩))
 ·simp (implicitDefEqProofs:=false) (disch:=first | omega | decide) only[mW,cU,eV,jE,nC,n5,qb,vz,oP,eY,qo,jU,u9,ah,eC,e2,eNew,p8,aX,eW,xO,wy,Es,jG,wu,vE,Ff,wH,vZ,u7,qf,BK,b2,oI,om,vP,nA,lu,dN,nList,aV,ay,vQ,pQ,iz,gq,f7,nq,jR,jY,sr,oj,Ew,Fb,CW,C9,ny,uc,yK,lp,jl,sC,ue,fG,cInt,cStr,qi,fI,pY,eP,uJ,o4,bb,gz,cI,gx,i4,iE,r_,D.atom,tyName,R.aO,R.gb,List.map_cons,List.map_nil,List.map_append,List.set_cons_zero,List.set_cons_succ,List.getElem?_cons_zero,List.getElem?_cons_succ,List.length_cons,List.length_nil,List.nil_append,List.cons_append,List.append_nil,List.length_map,List.length_append,List.replicate,Nat.reduceAdd,Nat.reduceSub,Nat.zero_add,decide_true,decide_false,Nat.lt_add_one,Nat.reduceLT,Nat.reduceLeDiff,Nat.reduceEqDiff,if_true,if_false,Bool.false_eq_true,ite_true,ite_false,Bool.true_or,Bool.or_true,Bool.true_and,Bool.and_true,beq_self_eq_true,down,cD,res,lx,bM,fQ,kX,iG,uT,oF,u6,Option.map_some,Option.bind_some,eI,bW,pF,j3,iy,jF,cb,decide_eq_true_eq,Int.reduceToNat,e1,c0,nK]
  rfl
 simp only[List.set_cons_succ,List.set_cons_zero]
 have fin:∀(r:Int) S2,0≤r→r < m→sU k S2→S2.length=S1.length→(∀j,j≠k→S2[j]? =S1[j]?)→Flat S2∧fw S.length (.d (.int r))=true∧∃d,res S2 (.d (.int r))=some d∧Q (.d d) (S2.take S.length):=fun r S2 h1 h2 p2 hl hj=>by
  refine⟨p2.1,by unfold fw;rfl, .int r,by unfold res;rfl,?_⟩
  rw[List.take_of_length_le (by omega)]
  exact h r S2 h1 h2 p2 (by omega) fun j hj'=>(hj j hj').trans (ho j hj')
 by_cases hc:(1000000000000000000:Int)≤a
 ·refine zN (mF (rH (b:=true) ?_ ?_))
  ·simp (implicitDefEqProofs:=false) (disch:=first | omega | decide) only[mW,cU,eV,jE,nC,n5,qb,vz,oP,eY,qo,jU,u9,ah,eC,e2,eNew,p8,aX,eW,xO,wy,Es,jG,wu,vE,Ff,wH,vZ,u7,qf,BK,b2,oI,om,vP,nA,lu,dN,nList,aV,ay,vQ,pQ,iz,gq,f7,nq,jR,jY,sr,oj,Ew,Fb,CW,C9,ny,uc,yK,lp,jl,sC,ue,fG,cInt,cStr,qi,fI,pY,eP,uJ,o4,bb,gz,cI,gx,i4,iE,r_,D.atom,tyName,R.aO,R.gb,List.map_cons,List.map_nil,List.map_append,List.set_cons_zero,List.set_cons_succ,List.getElem?_cons_zero,List.getElem?_cons_succ,List.length_cons,List.length_nil,List.nil_append,List.cons_append,List.append_nil,List.length_map,List.length_append,List.replicate,Nat.reduceAdd,Nat.reduceSub,Nat.zero_add,decide_true,decide_false,Nat.lt_add_one,Nat.reduceLT,Nat.reduceLeDiff,Nat.reduceEqDiff,if_true,if_false,Bool.false_eq_true,ite_true,ite_false,Bool.true_or,Bool.or_true,Bool.true_and,Bool.and_true,beq_self_eq_true,down,cD,res,lx,bM,fQ,kX,iG,uT,oF,u6,Option.map_some,Option.bind_some,eI,bW,pF,j3,iy,jF,cb,decide_eq_true_eq,Int.reduceToNat,hc]
   simp [hc]
  rw[if_pos rfl]
  refine aT (DP (cB (d:= .int (a / m)) ?_ (w_var (v:= .loc k) rfl (cB (d:= .int 0) rfl ⟨_,k,0,_,0,rfl,rfl,rfl,e1,rfl,_,rfl,?_⟩))))
  ·exact aJ (a:= .int a) (b:= .int m) rfl rfl (B8 hm (by omega))
  refine fq (cB (d:= .int (a % m)) (aJ (a:= .int a) (b:= .int m) rfl rfl (vM hm)) ⟨_,rfl,_,rfl,?_⟩)
  exact fin _ _ (Int.emod_nonneg _ (by omega)) (Int.emod_lt_of_pos _ hm) ⟨hL1.set _ (ph _),_,_,xN e1⟩ List.length_set fun j hj=>List.getElem?_set_ne (Ne.symm hj)
 ·refine aT (mF (rH (b:=false) ?_ ?_))
  ·simp (implicitDefEqProofs:=false) (disch:=first | omega | decide) only[mW,cU,eV,jE,nC,n5,qb,vz,oP,eY,qo,jU,u9,ah,eC,e2,eNew,p8,aX,eW,xO,wy,Es,jG,wu,vE,Ff,wH,vZ,u7,qf,BK,b2,oI,om,vP,nA,lu,dN,nList,aV,ay,vQ,pQ,iz,gq,f7,nq,jR,jY,sr,oj,Ew,Fb,CW,C9,ny,uc,yK,lp,jl,sC,ue,fG,cInt,cStr,qi,fI,pY,eP,uJ,o4,bb,gz,cI,gx,i4,iE,r_,D.atom,tyName,R.aO,R.gb,List.map_cons,List.map_nil,List.map_append,List.set_cons_zero,List.set_cons_succ,List.getElem?_cons_zero,List.getElem?_cons_succ,List.length_cons,List.length_nil,List.nil_append,List.cons_append,List.append_nil,List.length_map,List.length_append,List.replicate,Nat.reduceAdd,Nat.reduceSub,Nat.zero_add,decide_true,decide_false,Nat.lt_add_one,Nat.reduceLT,Nat.reduceLeDiff,Nat.reduceEqDiff,if_true,if_false,Bool.false_eq_true,ite_true,ite_false,Bool.true_or,Bool.or_true,Bool.true_and,Bool.and_true,beq_self_eq_true,down,cD,res,lx,bM,fQ,kX,iG,uT,oF,u6,Option.map_some,Option.bind_some,eI,bW,pF,j3,iy,jF,cb,decide_eq_true_eq,Int.reduceToNat,hc]
   simp [hc]
  rw[if_neg (by decide)]
  refine fT ⟨_,rfl,?_⟩
  refine aT (bF (by simp only[List.length_cons,List.length_nil,List.length_set];omega) (xp (d:= .int ((a*69621+(c+1)*7919+13) % 2147483647)) ?_ rfl ⟨_,rfl,?_⟩))
  ·have hi:c0 (.lst [.int a, .int (c+1)]) (.int 1)= .ok (.int (c+1)):=rfl
   simp (implicitDefEqProofs:=false) (disch:=first | omega | decide) only[mW,cU,eV,jE,nC,n5,qb,vz,oP,eY,qo,jU,u9,ah,eC,e2,eNew,p8,aX,eW,xO,wy,Es,jG,wu,vE,Ff,wH,vZ,u7,qf,BK,b2,oI,om,vP,nA,lu,dN,nList,aV,ay,vQ,pQ,iz,gq,f7,nq,jR,jY,sr,oj,Ew,Fb,CW,C9,ny,uc,yK,lp,jl,sC,ue,fG,cInt,cStr,qi,fI,pY,eP,uJ,o4,bb,gz,cI,gx,i4,iE,r_,D.atom,tyName,R.aO,R.gb,List.map_cons,List.map_nil,List.map_append,List.set_cons_zero,List.set_cons_succ,List.getElem?_cons_zero,List.getElem?_cons_succ,List.length_cons,List.length_nil,List.nil_append,List.cons_append,List.append_nil,List.length_map,List.length_append,List.replicate,Nat.reduceAdd,Nat.reduceSub,Nat.zero_add,decide_true,decide_false,Nat.lt_add_one,Nat.reduceLT,Nat.reduceLeDiff,Nat.reduceEqDiff,if_true,if_false,Bool.false_eq_true,ite_true,ite_false,Bool.true_or,Bool.or_true,Bool.true_and,Bool.and_true,beq_self_eq_true,down,cD,res,lx,bM,fQ,kX,iG,uT,oF,u6,Option.map_some,Option.bind_some,eI,bW,pF,j3,iy,jF,cb,decide_eq_true_eq,Int.reduceToNat,e1,hi]
  simp only[List.set_cons_succ,List.set_cons_zero]
  have hx1:0≤(a*69621+(c+1)*7919+13) % 2147483647:=Int.emod_nonneg _ (by omega)
  have hx2:(a*69621+(c+1)*7919+13) % 2147483647 < 2147483647:=Int.emod_lt_of_pos _ (by omega)
  generalize (a*69621+(c+1)*7919+13) % 2147483647=x at hx1 hx2
  refine aT (bF (by simp only[List.length_cons,List.length_nil,List.length_set];omega) (cB (d:= .int (x*x % 2147483629)) ?_ ⟨_,rfl,?_⟩))
  ·simp (implicitDefEqProofs:=false) (disch:=first | omega | decide) only[mW,cU,eV,jE,nC,n5,qb,vz,oP,eY,qo,jU,u9,ah,eC,e2,eNew,p8,aX,eW,xO,wy,Es,jG,wu,vE,Ff,wH,vZ,u7,qf,BK,b2,oI,om,vP,nA,lu,dN,nList,aV,ay,vQ,pQ,iz,gq,f7,nq,jR,jY,sr,oj,Ew,Fb,CW,C9,ny,uc,yK,lp,jl,sC,ue,fG,cInt,cStr,qi,fI,pY,eP,uJ,o4,bb,gz,cI,gx,i4,iE,r_,D.atom,tyName,R.aO,R.gb,List.map_cons,List.map_nil,List.map_append,List.set_cons_zero,List.set_cons_succ,List.getElem?_cons_zero,List.getElem?_cons_succ,List.length_cons,List.length_nil,List.nil_append,List.cons_append,List.append_nil,List.length_map,List.length_append,List.replicate,Nat.reduceAdd,Nat.reduceSub,Nat.zero_add,decide_true,decide_false,Nat.lt_add_one,Nat.reduceLT,Nat.reduceLeDiff,Nat.reduceEqDiff,if_true,if_false,Bool.false_eq_true,ite_true,ite_false,Bool.true_or,Bool.or_true,Bool.true_and,Bool.and_true,beq_self_eq_true,down,cD,res,lx,bM,fQ,kX,iG,uT,oF,u6,Option.map_some,Option.bind_some,eI,bW,pF,j3,iy,jF,cb,decide_eq_true_eq,Int.reduceToNat]
  simp only[List.set_cons_succ,List.set_cons_zero]
  generalize x*x % 2147483629=y
  refine fq (xp (d:= .int ((y*48271+(c+1)*40692) % 2147483587 / 8 % m)) ?_ rfl ⟨_,rfl,?_⟩)
  ·have hi:c0 (.lst [.int a, .int (c+1)]) (.int 1)= .ok (.int (c+1)):=rfl
   simp (implicitDefEqProofs:=false) (disch:=first | omega | decide) only[mW,cU,eV,jE,nC,n5,qb,vz,oP,eY,qo,jU,u9,ah,eC,e2,eNew,p8,aX,eW,xO,wy,Es,jG,wu,vE,Ff,wH,vZ,u7,qf,BK,b2,oI,om,vP,nA,lu,dN,nList,aV,ay,vQ,pQ,iz,gq,f7,nq,jR,jY,sr,oj,Ew,Fb,CW,C9,ny,uc,yK,lp,jl,sC,ue,fG,cInt,cStr,qi,fI,pY,eP,uJ,o4,bb,gz,cI,gx,i4,iE,r_,D.atom,tyName,R.aO,R.gb,List.map_cons,List.map_nil,List.map_append,List.set_cons_zero,List.set_cons_succ,List.getElem?_cons_zero,List.getElem?_cons_succ,List.length_cons,List.length_nil,List.nil_append,List.cons_append,List.append_nil,List.length_map,List.length_append,List.replicate,Nat.reduceAdd,Nat.reduceSub,Nat.zero_add,decide_true,decide_false,Nat.lt_add_one,Nat.reduceLT,Nat.reduceLeDiff,Nat.reduceEqDiff,if_true,if_false,Bool.false_eq_true,ite_true,ite_false,Bool.true_or,Bool.or_true,Bool.true_and,Bool.and_true,beq_self_eq_true,down,cD,res,lx,bM,fQ,kX,iG,uT,oF,u6,Option.map_some,Option.bind_some,eI,bW,pF,j3,iy,jF,cb,decide_eq_true_eq,Int.reduceToNat,e1,hi]
  exact fin _ _ (Int.emod_nonneg _ (by omega)) (Int.emod_lt_of_pos _ hm) ⟨hL1,_,_,e1⟩ rfl fun j hj=>rfl
section
variable {S:aH} {δ:DE} {k i:Nat}
theorem draw{Q:V3→aH→Prop}{f:FD}{m:Int}(hv:δ[i]? =some (some (.loc k)))(p:sU k S)(hf:f (down δ)= .ok (.int m))(hm:0 < m)(hm2:m < 1000000)
 (h:∀(r:Int) S1,0≤r→r < m→Ev k S S1→Q (.d (.int r)) S1):W3 (bQ aI (av (bK i) (av (xP f) bU)) δ S) Q:=
 cV (ax (w_var hv (ax (cB hf (cf (yd p hm hm2 fun r S1 h1 h2 p1 hl ho=>h r S1 h1 h2 ⟨p1,hl,ho⟩))))))
end
end K26
end
section
set_option maxRecDepth 100000
set_option maxHeartbeats 4000000
namespace K26
open PySem PySem.Spec PyProof.Rows L2 L3 MT
theorem yi{a:D}{r:List D}:c0 (.tup (a ::r)) (.int 0)= .ok a:=sQ (by rw[lM (by omega) (by simp)];rfl)
theorem zi{a b:D}{r:List D}:c0 (.tup (a ::b ::r)) (.int 1)= .ok b:=sQ (by rw[lM (by omega) (by simp)];rfl)
theorem JE{a b c:D}{r:List D}:c0 (.tup (a ::b ::c ::r)) (.int 2)= .ok c:=sQ (by rw[lM (by omega) (by simp)];rfl)
theorem wU{N:Nat}{a b c:M}:fu [.tup [mI N a,mI N b,mI N c]]= .ok (mI N fun p=>(a p && b p) || (a p && c p) || (b p && c p)):=by
 unfold fu qT
 refine dn (cz ?_)
 exact aJ (aJ (aJ (aJ rfl rfl yi) (aJ rfl rfl zi) (pO N a b)) (aJ (aJ rfl rfl yi) (aJ rfl rfl JE) (pO N a c)) (uP N _ _)) (aJ (aJ rfl rfl zi) (aJ rfl rfl JE) (pO N b c)) (uP N _ _)
theorem Gx(k j:Nat)(hk:k≤4)(hj:j≤4):jl (.str (kS k)) (.str (kS j))= .ok (.bl (decide (k=j))):=by
 show R.ok (D.bl (kS k==kS j))=_
 congr 2
 revert hk hj
 have:∀a∈List.range 5,∀b∈List.range 5,(kS a==kS b)=decide (a=b):=by decide+kernel
 intro hk hj
 exact this k (by rw[List.mem_range];omega) j (by rw[List.mem_range];omega)
theorem CC{N kd:Nat}{xs:List M}(hk:kd≤4)(hx:xs.length=ar kd):fj [.str (kS kd), .tup (xs.map (mI N)),mI N one]= .ok (mI N fun p=>gv kd (xs.map (· p))):=by
 unfold fj nJ
 have q:∀j,j≤4→b2 jl (ah 0) (eC (.str (kS j))) (cU kj [.str (kS kd), .tup (xs.map (mI N)),mI N one])= .ok (decide (kd=j)):=fun j hj=>eJ (a:= .str (kS kd)) (b:= .str (kS j)) rfl rfl (Gx kd j hk hj)
 have q0:=q 0 (by omega)
 have q1:=q 1 (by omega)
 have q2:=q 2 (by omega)
 have q3:=q 3 (by omega)
 match kd,hk,xs,hx with
 | 0,_,[a],_=>
   refine dn (NT.iI (nP q0 (cz (aJ (a:=mI N one) (b:=mI N a) rfl (aJ rfl rfl yi) (uI N a)))))
 | 1,_,[a,b],_=>
   refine dn (bN (gL q0 rfl) (NT.iI (nP q1 (cz (aJ (aJ rfl rfl yi) (aJ rfl rfl zi) (pO N a b))))))
 | 2,_,[a,b],_=>
   refine dn (bN (gL q0 rfl) (bN (gL q1 rfl) (NT.iI (nP q2 (cz (aJ (aJ rfl rfl yi) (aJ rfl rfl zi) (uP N a b)))))))
 | 3,_,[a,b],_=>
   refine dn (bN (gL q0 rfl) (bN (gL q1 rfl) (bN (gL q2 rfl) (NT.iI (nP q3 (cz (aJ (aJ rfl rfl yi) (aJ rfl rfl zi) (xK N a b))))))))
 | 4,_,[a,b,c],_=>
   refine dn (bN (gL q0 rfl) (bN (gL q1 rfl) (bN (gL q2 rfl) (bN (gL q3 rfl) (cz (aN (ds:=[.tup [mI N a,mI N b,mI N c]]) rfl wU))))))
theorem DX{N:Nat}{ws:List M}{ns:List Nat}(hn:∀n∈ns,n < ws.length)(hl:ns.length < 1000):d_ [.lst (ws.map (mI N)), .tup (ns.map nI)]= .ok (.tup ((ns.map (g6 ws)).map (mI N))):=by
 have hz:sizeLine=16777216:=sizeLine_eq
 unfold d_ p6
 refine dn (cz (aN (ds:=[.lst ((ns.map (g6 ws)).map (mI N))]) (aR (dW (d7 (ds:=ns.map nI) (k_ rfl) (by rw[List.length_map];omega) ?_)) rfl) rfl))
 rw[List.map_map]
 exact NT.d9 nI _ fun n hn'=>⟨[.val (nI n), .val (.lst (ws.map (mI N)))],rfl,rfl,aJ (a:= .lst (ws.map (mI N))) (b:=nI n) rfl rfl (E_ (hn n hn'))⟩
noncomputable def va(N:Nat)(S:aH)(insD bitsD badD:D)(a5 a6 a7:Option V3):DE:=[some (.d insD),some (.d bitsD),some (.d (mI N one)),some (.d badD),some (.loc S.length),a5,a6,a7]
theorem zt{N:Nat}{S:aH}{insD bitsD:D}{bad:List Int}{a5 a7:Option V3}{b:M}{ws:List M}(hl:ws.length < 10000) :
 W3 (fH (va N S insD bitsD (.tup (bad.map .int)) a5 (some (.d (mI N b))) a7) (S++[.lst (ws.map (mI N))])) fun o S1=>o= .nx (va N S insD bitsD (.tup (bad.map .int)) a5 (some (.d (mI N b))) a7)∧S1=S++[SO.lst ((ws++[fun p=>b p !=bad.contains (ws.length:Int)]).map (mI N))]:=by
 have hz:sizeLine=16777216:=sizeLine_eq
 unfold fH
 refine kU (k:=S.length) rfl ⟨_,bG _ _⟩ (xp (d:=mI N fun p=>b p !=bad.contains (ws.length:Int)) ?_ rfl ⟨_,_,rfl,bG _ _,by rw[List.length_map];omega,rfl,?_⟩)
 ·have h4:(cD (S++[.lst (ws.map (mI N))]) (va N S insD bitsD (.tup (bad.map .int)) a5 (some (.d (mI N b))) a7))[4]? =some (.val (.lst (ws.map (mI N)))):=by
   unfold cD va
   show some (match res (S++[.lst (ws.map (mI N))]) (.loc S.length) with | some d=>Sl.val d | none=> .un)=_
   unfold res
   rw[bG]
  refine rL (b:=bad.contains (ws.length:Int)) (eJ (a:= .int ws.length) (b:= .tup (bad.map .int)) (aN (ds:=[.lst (ws.map (mI N))]) (aR (by unfold ah;rw [h4]) rfl) (by rw[n3,List.length_map])) rfl (sR _ _)) ?_
  rw[←AY]
  rfl
 ·rw[eg,List.map_append];rfl
theorem sY{N:Nat}{S:aH}{bD:D}{ins:List (Str × Nat)}{bits:List M}{bad:List Int}(hB:bD= .lst (bits.map (mI N))∨bD= .tup (bits.map (mI N)))(hb:bits.length=ins.length)(hi:ins.length < 100)(hw:∀x∈ins,x.2 < 100){Q:V3→aH→Prop}
 (h:Q (.loc S.length) (S++[.lst ((cZ ins bits bad ins.length).map (mI N))])) :
 W3 (cS [.d (.lst (ins.map inD)), .d bD, .d (mI N one), .d (.tup (bad.map .int))] S) Q:=by
 have hz:sizeLine=16777216:=sizeLine_eq
 unfold cS
 refine tT rfl ?_
 simp only[bM,eQ,List.map_cons,List.map_nil,List.length_cons,List.length_nil,List.replicate,List.cons_append,List.nil_append,Nat.reduceAdd,Nat.reduceSub]
 unfold gJ
 refine aT (bF (by simp only[List.length_cons,List.length_nil,List.length_set];omega) (i7 (ds:=[]) rfl ⟨_,rfl,?_⟩))
 simp only[List.set_cons_succ,List.set_cons_zero]
 refine aT (fS (lY (ds:=cX (bits.map (mI N))) (by rcases hB with rfl | rfl <;> rfl) ?_))
 have big:∀i,i≤ins.length→(cZ ins bits bad i).length≤100*i:=by
  intro i hi'
  induction i with
  | zero=>simp [cZ]
  | succ i ih=>
    have ih:=ih (by omega)
    have h1:ins[i]? =some ins[i]:=List.getElem?_eq_getElem (by omega)
    have h2:bits[i]? =some bits[i]:=List.getElem?_eq_getElem (by omega)
    unfold cZ
    rw[h1,h2]
    show(fM bad bits[i] ins[i].2 (cZ ins bits bad i)).length≤_
    rw[fY]
    have:=hw ins[i] (List.getElem_mem _)
    omega
 refine(cu (fun i δ S2=>(∃a b c,δ=va N S (.lst (ins.map inD)) bD (.tup (bad.map .int)) a b c)∧S2=S++[SO.lst ((cZ ins bits bad i).map (mI N))])
  ⟨⟨_,_,_,rfl⟩,rfl⟩ ?_).mono fun o S2 ⟨δ2,e2',⟨a,b,c,hδ⟩,hS⟩=>⟨δ2,e2',?_⟩
 ·rintro i v δ S2 hv ⟨⟨a,b,c,rfl⟩,rfl⟩
  obtain⟨d,hd,rfl⟩:=oq hv
  rw[List.getElem?_map] at hd
  have hib:i < bits.length:=by
   have:=(List.getElem?_eq_some_iff.mp hv).1
   simpa [cX] using this
  have h1:ins[i]? =some ins[i]:=List.getElem?_eq_getElem (by omega)
  have h2:bits[i]? =some bits[i]:=List.getElem?_eq_getElem hib
  rw[h2] at hd
  cases hd
  refine⟨va N S (.lst (ins.map inD)) bD (.tup (bad.map .int)) (some (.d (.int i))) (some (.d (mI N bits[i]))) c,rfl,?_⟩
  unfold iK
  have hwi:=hw ins[i] (List.getElem_mem _)
  refine fS (lY (kJ (n:=ins[i].2) ?_ (by omega)) ?_)
  ·refine aJ (a:=inD ins[i]) (b:= .int 1) (aJ (a:= .lst (ins.map inD)) (b:= .int i) rfl rfl (sN ?_)) rfl rfl
   rw[lM (by omega) (by rw[List.length_map,Int.toNat_natCast];omega)]
   simp
  refine(cu (fun j δ S3=>(∃c,δ=va N S (.lst (ins.map inD)) bD (.tup (bad.map .int)) (some (.d (.int i))) (some (.d (mI N bits[i]))) c)∧S3=S++[SO.lst ((fM bad bits[i] j (cZ ins bits bad i)).map (mI N))])
   ⟨⟨_,rfl⟩,rfl⟩ ?_).mono fun o S3 ⟨δ3,e3,⟨c3,hδ3⟩,hS3⟩=>⟨δ3,e3,⟨_,_,c3,hδ3⟩,?_⟩
  ·rintro j v δ S3 hv ⟨⟨c3,rfl⟩,rfl⟩
   refine⟨_,rfl,?_⟩
   have hj:j < ins[i].2:=by
    have:=(List.getElem?_eq_some_iff.mp hv).1
    rwa [List.length_map,dS,List.length_map,List.length_range] at this
   refine(zt ?_).mono fun o S4 ⟨e4,e5⟩=>⟨_,e4,⟨_,rfl⟩,e5⟩
   rw[fY]
   have:=big i (by omega)
   omega
  ·rw[hS3,List.length_map,dS,List.length_map,List.length_range]
   show _=S++[SO.lst ((match ins[i]?,bits[i]? with | some x,some b=>fM bad b x.2 (cZ ins bits bad i) | _,_=>cZ ins bits bad i).map (mI N))]
   rw[h1,h2]
 have hlen:((cX (bits.map (mI N))).map V3.d).length=ins.length:=by simp [cX,hb]
 rw[hlen] at hS
 subst hδ hS
 exact fq (w_var rfl ⟨_,rfl,h⟩)
section
variable {N:Nat} {ins:List (Str × Nat)} {gs:List Gt} {os:List (Str × List Nat)} {bits:List M} {turned bad:List Int}
noncomputable def tf(N:Nat)(S:aH)(nt bitsD tD bD:D)(a6 a7 a8:Option V3):DE:=[some (.d nt),some (.d bitsD),some (.d (mI N one)),some (.d tD),some (.d bD),some (.loc S.length),a6,a7,a8]
theorem yR{S:aH}{nt bitsD bD:D}{a8:Option V3}{g:Gt}{i:Nat}{ws:List M}(hg:ur ws.length g)(hl:ws.length < 20000) :
 W3 (hV (tf N S nt bitsD (.tup (turned.map .int)) bD (some (.d (.int i))) (some (.d (jS g))) a8) (S++[.lst (ws.map (mI N))])) fun o S1=>(∃c,o= .nx (tf N S nt bitsD (.tup (turned.map .int)) bD (some (.d (.int i))) (some (.d (jS g))) c))∧S1=S++[SO.lst ((ws++[fun p=>gF g ws p !=turned.contains (i:Int)]).map (mI N))]:=by
 have hz:sizeLine=16777216:=sizeLine_eq
 have ha:=Ax g.1
 unfold hV
 refine aT (bF (by unfold tf;simp only[List.length_cons,List.length_nil];omega) (xp (d:=mI N (gF g ws)) ?_ rfl ⟨_,rfl,?_⟩))
 ·have h5:(cD (S++[.lst (ws.map (mI N))]) (tf N S nt bitsD (.tup (turned.map .int)) bD (some (.d (.int i))) (some (.d (jS g))) a8))[5]? =some (.val (.lst (ws.map (mI N)))):=by
   unfold cD tf
   show some (match res (S++[.lst (ws.map (mI N))]) (.loc S.length) with | some d=>Sl.val d | none=> .un)=_
   unfold res
   rw[bG]
  refine(aN (ds:=[.str (kS g.1), .tup ((g.2.1.map (g6 ws)).map (mI N)),mI N one]) (aR (aJ (a:=jS g) (b:= .int 0) rfl rfl rfl) (aR ?_ (aR rfl rfl))) (CC hg.1 (by rw[List.length_map];exact hg.2.1))).trans ?_
  ·exact aN (ds:=[.lst (ws.map (mI N)), .tup (g.2.1.map nI)]) (aR (by unfold ah;rw [h5]) (aR (aJ (a:=jS g) (b:= .int 1) rfl rfl rfl) rfl)) (DX hg.2.2 (by rw[hg.2.1];omega))
  ·have:(fun p=>gv g.1 ((g.2.1.map (g6 ws)).map (· p)))=gF g ws:=by funext p;unfold gF;rw [List.map_map];rfl
   rw[this]
 ·show W3 (lT 5 _ (tf N S nt bitsD (.tup (turned.map .int)) bD (some (.d (.int i))) (some (.d (jS g))) (some (.d (mI N (gF g ws))))) _) _
  refine kU (k:=S.length) rfl ⟨_,bG _ _⟩ (cB (d:=mI N fun p=>gF g ws p !=turned.contains (i:Int)) ?_ ⟨_,_,rfl,bG _ _,by rw[List.length_map];omega,⟨_,rfl⟩,?_⟩)
  ·refine rL (b:=turned.contains (i:Int)) (eJ (a:= .int i) (b:= .tup (turned.map .int)) rfl rfl (sR _ _)) ?_
   rw[←AY]
   rfl
  ·rw[eg,List.map_append];rfl
theorem uL{S:aH}{bD:D}(hB:bD= .lst (bits.map (mI N))∨bD= .tup (bits.map (mI N)))(NO:jb ins gs os)(hb:bits.length=ins.length)(hS:nD S){Q:V3→aH→Prop}(h:Q (.d (.lst ((lD ins gs bits turned bad).map (mI N)))) S) :
 W3 (dm [.d (bH ins gs os), .d bD, .d (mI N one), .d (.tup (turned.map .int)), .d (.tup (bad.map .int))] S) Q:=by
 have hz:sizeLine=16777216:=sizeLine_eq
 unfold dm
 refine mi hS (tT rfl ?_)
 simp only[bM,gO,List.map_cons,List.map_nil,List.length_cons,List.length_nil,List.replicate,List.cons_append,List.nil_append,Nat.reduceAdd,Nat.reduceSub]
 unfold jv
 refine aT <| bF (by simp only[List.length_cons,List.length_nil,List.length_set];omega) <| cV <| ax <| cB (d:= .lst (ins.map inD)) rfl <| ax <| cB (d:=bD) rfl <| ax <| cB (d:=mI N one) rfl <| ax <| cB (d:= .tup (bad.map .int)) rfl <| cf <| sY hB hb NO.hi NO.hw ⟨_,rfl,?_⟩
 simp only[List.set_cons_succ,List.set_cons_zero]
 have hwd:=vC NO.hw
 have hN:=NO.hi
 have hG:=NO.hg
 refine aT (fS (lY (ds:=cX (gs.map jS)) rfl ?_))
 refine(cu (fun i δ S2=>(∃a b c,δ=tf N S (bH ins gs os) bD (.tup (turned.map .int)) (.tup (bad.map .int)) a b c)∧S2=S++[SO.lst ((kI gs turned (cZ ins bits bad ins.length) i).map (mI N))])
  ⟨⟨_,_,_,rfl⟩,rfl⟩ ?_).mono fun o S2 ⟨δ2,e2',⟨a,b,c,hδ⟩,hS2⟩=>⟨δ2,e2',?_⟩
 ·rintro i v δ S2 hv ⟨⟨a,b,c,rfl⟩,rfl⟩
  obtain⟨d,hd,rfl⟩:=oq hv
  rw[List.getElem?_map] at hd
  cases q:gs[i]? with
  | none=>rw [q] at hd;cases hd
  | some g=>
    rw[q] at hd
    cases hd
    have hi:i < gs.length:=(List.getElem?_eq_some_iff.mp q).1
    have hl:(kI gs turned (cZ ins bits bad ins.length) i).length=gA ins+i:=by rw[lU _ (by omega),lZ hb _ (Nat.le_refl _),List.take_length]
    refine⟨tf N S (bH ins gs os) bD (.tup (turned.map .int)) (.tup (bad.map .int)) (some (.d (.int i))) (some (.d (jS g))) c,rfl,?_⟩
    refine(yR (by rw[hl];exact NO.g i g q) (by rw[hl];omega)).mono fun o S4 ⟨⟨c4,e4⟩,e5⟩=>⟨_,e4,⟨_,_,_,rfl⟩,?_⟩
    rw[e5]
    show _=S++[SO.lst ((match gs[i]? with | some g=>kI gs turned (cZ ins bits bad ins.length) i++[fun p=>gF g (kI gs turned (cZ ins bits bad ins.length) i) p !=turned.contains (i:Int)] | none=>kI gs turned (cZ ins bits bad ins.length) i).map (mI N))]
    rw[q]
 have hlen:((cX (gs.map jS)).map V3.d).length=gs.length:=by simp [cX]
 rw[hlen] at hS2
 subst hδ hS2
 exact fq (w_var rfl ⟨_,rfl,by unfold fw;exact decide_eq_true (Nat.le_refl _),⟨_,rfl⟩,_,by unfold res;rw [bG];rfl,h⟩)
noncomputable def gY(N:Nat)(os:List (Str × List Nat))(ws:List M):List D:=os.map fun x=> .tup ((tell ws x).map (mI N))
theorem xB{S:aH}{ws:List M}(hO:os.length < 1000)(ho:∀x∈os,x.2.length < 1000∧∀w∈x.2,w < ws.length)(hS:nD S){Q:V3→aH→Prop}(h:Q (.d (.lst (gY N os ws))) S) :
 W3 (dJ [.d (bH ins gs os), .d (.lst (ws.map (mI N)))] S) Q:=by
 have hz:sizeLine=16777216:=sizeLine_eq
 unfold dJ
 refine mi hS (tT rfl ?_)
 simp only[bM,gC,List.map_cons,List.map_nil,List.length_cons,List.length_nil,List.replicate,List.cons_append,List.nil_append,Nat.reduceAdd,Nat.reduceSub]
 unfold kE
 refine fq (i7 (ds:=gY N os ws) ?_ ⟨_,rfl,by unfold fw;exact decide_eq_true (Nat.le_refl _),⟨_,rfl⟩,_,by unfold res;rw [bG],h⟩)
 refine d7 (ds:=os.map xG) (kr (aJ (a:=bH ins gs os) (b:= .int 2) rfl rfl rfl)) (by rw[List.length_map];omega) ?_
 unfold gY
 refine NT.d9 xG _ fun(x:Str × List Nat) hx=>⟨[.val (.str x.1), .val (.tup (x.2.map nI)), .val (.lst (ws.map (mI N)))],rfl,rfl,?_⟩
 exact aN (ds:=[.lst (ws.map (mI N)), .tup (x.2.map nI)]) rfl (DX (ho x hx).2 (ho x hx).1)
end
end K26
end
section
set_option maxRecDepth 100000
set_option maxHeartbeats 4000000
namespace K26
open PySem PySem.Spec PyProof.Rows L2 L3 MT
noncomputable def r0(xs:List M):M:=fun p=>(DK (xs.map (· p))).1
noncomputable def r1(xs:List M):M:=fun p=>(DK (xs.map (· p))).2
theorem oV{n:Nat}{ds:List D}{δ:aw}{j:Int}(h:ah 0 δ= .ok (.tup ds))(hl:ds.length=n):b2 jl (aX eP (ay (ah 0) aV)) (eC (.int j)) δ= .ok (decide ((n:Int)=j)):=by
 refine eJ (a:= .int n) (b:= .int j) (aN (ds:=[.tup ds]) (aR h rfl) ?_) rfl ?_
 ·show R.ok (D.int ds.length)=_
  rw[hl]
 ·show R.ok (D.bl ((n:Int)==j))=_
  congr 2
theorem pH{N:Nat}{xs:List M}(h:1≤xs.length∧xs.length≤3):fg [.tup (xs.map (mI N)),mI N one]= .ok (.tup [mI N (r0 xs),mI N (r1 xs)]):=by
 have hz:sizeLine=16777216:=sizeLine_eq
 unfold fg rD
 match xs,h with
 | [a],_=>
   refine dn (bN (gL (oV (n:=1) rfl rfl) rfl) (bN (iT (d:=mI N a) (rL (oV (n:=1) rfl rfl) (aJ (a:= .tup [mI N a]) (b:= .int 0) rfl rfl yi)) (by simp [cU,kP])) (cz ?_)))
   exact fB (aR (aJ (a:=mI N one) (b:=mI N a) rfl rfl (uI N a)) (aR rfl rfl)) (by simp;omega)
 | [a,b],_=>
   refine dn (NT.iI (nP (oV (n:=2) rfl rfl) (cz ?_)))
   exact fB (aR (aJ (a:=mI N one) (b:=mI N fun p=>a p || b p) rfl (aJ (aJ rfl rfl yi) (aJ rfl rfl zi) (uP N a b)) (uI N _)) (aR (aJ (aJ rfl rfl yi) (aJ rfl rfl zi) (pO N a b)) rfl)) (by simp;omega)
 | [a,b,c],_=>
   refine dn (bN (gL (oV (n:=3) rfl rfl) rfl) (bN (iT (d:=mI N fun p=>(a p && b p) || (a p && c p) || (b p && c p)) (rL (oV (n:=3) rfl rfl) (aN (ds:=[.tup [mI N a,mI N b,mI N c]]) rfl wU)) (by simp [cU,kP])) (cz ?_)))
   exact fB (aR (aJ (a:=mI N one) (b:=mI N fun p=>(a p && b p) || (a p && c p) || (b p && c p)) rfl rfl (uI N _)) (aR rfl rfl)) (by simp;omega)
theorem Bf{N n:Nat}{f:M}:fJ [mI N f, .int n]= .ok (.int (if decide (n < N) && f n then 1 else 0)):=by
 unfold fJ sZ
 refine dn (cz ?_)
 have h:=Hx N f n
 show(R.bind (R.bind (R.ok (mI N f)) fun d=>R.bind (R.ok (D.int n)) fun e=>oj d e) fun d=>R.bind (R.ok (D.int 1)) fun e=>zk d e)=_
 exact h
theorem pR{bs:List Bool}(hl:bs.length < 100000):fk [.lst (bs.map bI)]= .ok (.int (BJ bs)):=by
 unfold fk qX
 refine dn (bN (iT (d:= .int 0) rfl (by simp [cU,nE])) ?_)
 obtain⟨δ1,e1,a2,hδ1⟩:=i3 (t:=bb 2) (body:=km) (ds:=(bs.map bI).reverse)
  (fun i δ=>∃a2,δ=[.val (.lst (bs.map bI)), .val (.int (BJ (bs.drop (bs.length - i)))),a2]) (δ:=[.val (.lst (bs.map bI)), .val (.int 0), .un]) ⟨.un,by simp [BJ]⟩ (by
    rintro i d δ hd ⟨a2,rfl⟩
    have hi:i < bs.length:=by
     have:=(List.getElem?_eq_some_iff.mp hd).1
     rwa [List.length_reverse,List.length_map] at this
    rw[List.getElem?_reverse (by rw[List.length_map];exact hi),List.length_map,List.getElem?_map,List.getElem?_eq_getElem (by omega:bs.length - 1 - i < bs.length)] at hd
    cases hd
    have hdr:bs.drop (bs.length - (i+1))=bs[bs.length - 1 - i] ::bs.drop (bs.length - i):=by
     rw[show bs.length - (i+1)=bs.length - 1 - i by omega,List.drop_eq_getElem_cons (by omega:bs.length - 1 - i < bs.length),show bs.length - 1 - i+1=bs.length - i by omega]
    refine⟨_,?_,⟨.val (bI bs[bs.length - 1 - i]),rfl⟩⟩
    have hm:(BJ (bs.drop (bs.length - (i+1))):Int)=(BJ (bs.drop (bs.length - i)):Int)*2+(if bs[bs.length - 1 - i] then 1 else 0):=by
     rw[hdr]
     show(((if bs[bs.length - 1 - i] then 1 else 0)+2*BJ (bs.drop (bs.length - i)):Nat):Int)=_
     cases bs[bs.length - 1 - i] <;> simp <;> omega
    rw[hm]
    generalize (BJ (bs.drop (bs.length - i)):Int)=m
    generalize bs[bs.length - 1 - i]=x
    generalize D.lst (bs.map bI)=y
    rw[show bb 2 (bI x) [.val y, .val (.int m),a2]= .ok [.val y, .val (.int m), .val (bI x)] from rfl,R.aO]
    unfold km
    exact iT (aJ (a:= .int (m*2)) (b:=bI x) (aJ (a:= .int m) (b:= .int 2) rfl rfl (cb _ (.inr ⟨by omega,by omega⟩))) rfl rfl) (by simp))
 refine bN (mM (ds:=(bs.map bI).reverse) rfl e1) ?_
 rw[List.length_reverse,List.length_map,Nat.sub_self,List.drop_zero] at hδ1
 subst hδ1
 exact cz rfl
noncomputable def bt:Nat→List (List Bool)
 | 0=>[[]]
 | c+1=>(bt c).flatMap fun b=>[b++[false],b++[true]]
theorem cF:∀c,(bt c).length=2 ^ c
 | 0=>rfl
 | c+1=>by
   unfold bt
   rw[List.length_flatMap]
   have:(bt c).map (fun b=>[b++[false],b++[true]].length)=(bt c).map fun _=>2:=rfl
   rw[this,List.map_const',List.sum_replicate_nat,cF c]
   omega
theorem gW:∀c,∀b∈bt c,b.length=c
 | 0,b,h=>by unfold bt at h;rw [List.mem_singleton.mp h];rfl
 | c+1,b,h=>by
   unfold bt at h
   obtain⟨a,ha,hb⟩:=List.mem_flatMap.mp h
   have:=gW c a ha
   simp only[List.mem_cons,List.not_mem_nil,or_false] at hb
   rcases hb with rfl | rfl <;> simp [this]
noncomputable def bY(b:List Bool):D:= .tup (b.map bI)
noncomputable def aE(c:Nat)(inp:Option V3)(a2 a3 a4:Option V3):DE:=[some (.d (nI c)),inp,a2,a3,a4]
theorem qv{c:Nat}{S:aH}(hc:c≤10)(hS:nD S){Q:V3→aH→Prop}(h:Q (.d (.lst ((bt c).map bY))) S):W3 (eN [.d (nI c)] S) Q:=by
 have hz:sizeLine=16777216:=sizeLine_eq
 unfold eN
 refine mi hS (tT rfl ?_)
 simp only[bM,gP,List.map_cons,List.map_nil,List.length_cons,List.length_nil,List.replicate,List.cons_append,List.nil_append,Nat.reduceAdd,Nat.reduceSub]
 unfold jm
 refine aT <| bF (by simp only[List.length_cons,List.length_nil,List.length_set];omega) <| i7 (ds:=(bt 0).map bY) rfl ⟨_,rfl,?_⟩
 simp only[List.set_cons_succ,List.set_cons_zero]
 refine aT <| fS <| lY (kJ (n:=c) rfl (by omega)) ?_
 refine(cu (fun i δ S2=>∃(T:aH) (a2 a3 a4:Option V3),S2=S++T++[.lst ((bt i).map bY)]∧δ=aE c (some (.loc (S++T).length)) a2 a3 a4)
  ⟨[],none,none,none,by simp,by simp [aE]⟩ ?_).mono fun o S2 ⟨δ2,e2',T,a2,a3,a4,hS2,hδ⟩=>⟨δ2,e2',?_⟩
 ·rintro i v δ S2 hv ⟨T,a2,a3,a4,rfl,rfl⟩
  have hi:i < c:=by
   have:=(List.getElem?_eq_some_iff.mp hv).1
   rwa [List.length_map,dS,List.length_map,List.length_range] at this
  have hpow:(bt i).length≤1024:=by
   rw[cF]
   exact Nat.pow_le_pow_right (by omega) (by omega:i≤10)
  refine⟨aE c (some (.loc (S++T).length)) (some v) a3 a4,rfl,?_⟩
  unfold j4 aE
  refine GL (i:=1) rfl (bG _ _) ?_
  rw[eg]
  simp only[List.set_cons_succ,List.set_cons_zero]
  refine aT <| bF (by simp only[List.length_cons,List.length_nil,List.length_set];omega) <| i7 (ds:=[]) rfl ⟨_,rfl,?_⟩
  simp only[List.set_cons_succ,List.set_cons_zero]
  generalize hU:S++T++[SO.iE]=U
  refine aT <| fS <| lY (ds:=(bt i).map bY) rfl ?_
  refine(cu (fun j δ S3=>(∃b4,δ=[some (.d (nI c)),some (.d (.lst ((bt i).map bY))),some v,some (.loc U.length),b4])∧S3=U++[.lst ((((bt i).take j).flatMap fun b=>[b++[false],b++[true]]).map bY)])
   ⟨⟨_,rfl⟩,by simp⟩ ?_).mono fun o S3 ⟨δ3,e3,⟨b4,hδ3⟩,hS3⟩=>⟨δ3,e3,?_⟩
  ·rintro j v3 δ S3 hv3 ⟨⟨b4,rfl⟩,rfl⟩
   obtain⟨b,hb,rfl⟩:=NT.j1 hv3
   have hj:=(List.getElem?_eq_some_iff.mp hb).1
   have hbl:=gW i b (List.mem_of_getElem? hb)
   refine⟨[some (.d (nI c)),some (.d (.lst ((bt i).map bY))),some v,some (.loc U.length),some (.d (bY b))],rfl,?_⟩
   unfold kA
   generalize hL:((((bt i).take j).flatMap fun b=>[b++[false],b++[true]]).map bY)=L
   have hLl:L.length≤2048:=by
    rw[←hL,List.length_map,List.length_flatMap]
    have:((bt i).take j).map (fun b=>[b++[false],b++[true]].length)=((bt i).take j).map fun _=>2:=rfl
    rw[this,List.map_const',List.sum_replicate_nat,List.length_take]
    omega
   have add:∀(x:Bool) (δ:aw),ah 4 δ= .ok (bY b)→e2 jg (ah 4) (eW (ay (eC (bI x)) aV)) δ= .ok (bY (b++[x])):=fun x δ h4=>by
    refine aJ (a:=bY b) (b:= .tup [bI x]) h4 (fB rfl (by simp;omega)) ?_
    show R.bE (decide ((b.map bI).length+[bI x].length≤sizeLine)) _=_
    rw[cb _ (by rw[List.length_map];simp;omega)]
    unfold bY
    rw[List.map_append];rfl
   refine aT <| kU (k:=U.length) rfl ⟨_,bG _ _⟩ <| cB (d:=bY (b++[false])) (add false _ rfl) ⟨_,_,rfl,bG _ _,by omega,_,rfl,?_⟩
   rw[eg]
   refine kU (k:=U.length) rfl ⟨_,bG _ _⟩ <| cB (d:=bY (b++[true])) (add true _ rfl) ⟨_,_,rfl,bG _ _,by rw[List.length_append];simp;omega,_,rfl,⟨_,rfl⟩,?_⟩
   rw[eg,List.take_add_one,hb,List.flatMap_append,List.map_append,hL]
   simp
  rw[List.length_map,List.length_map,List.take_length] at hS3
  subst hδ3 hS3
  refine bF (by simp only[List.length_cons,List.length_nil,List.length_set];omega) <| w_var (v:= .loc U.length) rfl ⟨_,rfl,T++[SO.iE],some v,some (.loc U.length),b4,?_,?_⟩
  ·rw[←hU,List.append_assoc S];rfl
  ·rw[←hU,List.append_assoc S];rfl
 have hlen:((dS 0 c).map V3.d).length=c:=by simp [dS]
 rw[hlen] at hS2
 subst hδ hS2
 unfold aE
 refine fq (w_var rfl ⟨_,rfl,by unfold fw;exact decide_eq_true (by rw[List.length_append];omega),⟨T++[.lst ((bt c).map bY)],by rw[List.append_assoc]⟩,_,by unfold res;rw [bG],h⟩)
end K26
end
section
set_option maxRecDepth 100000
set_option maxHeartbeats 4000000
namespace K26
open PySem PySem.Spec PyProof.Rows L2 L3 MT
noncomputable def GQ(c j:Nat):M:=fun p=>((bt c).getD p []).getD j false
noncomputable def qu(c:Nat):List M:=(List.range c).map (GQ c)
theorem Gg{b:List Bool}{j:Nat}(h:j < b.length):c0 (bY b) (.int j)= .ok (bI (b.getD j false)):=by
 refine sQ ?_
 rw[lM (by omega) (by rw[List.length_map,Int.toNat_natCast];exact h)]
 rw[List.getD_eq_getElem?_getD,List.getElem?_eq_getElem h]
 simp
theorem vR{c j:Nat}(hc:c≤10)(hj:j < c):gU [.lst ((bt c).map bY), .int j]= .ok (mI (2 ^ c) (GQ c j)):=by
 have hz:sizeLine=16777216:=sizeLine_eq
 have hp:2 ^ c≤1024:=Nat.pow_le_pow_right (by omega) hc
 unfold gU qN
 refine dn (cz (aN (ds:=[.lst (((bt c).map fun b=>b.getD j false).map bI)]) (aR (dW (d7 (ds:=(bt c).map bY) rfl (by rw[List.length_map,cF];omega) ?_)) rfl) ?_))
 ·rw[List.map_map]
  exact NT.d9 bY _ fun b hb=>⟨[.val (bY b), .val (.int j)],rfl,rfl,aJ (a:=bY b) (b:= .int j) rfl rfl (Gg (by rw[gW c b hb];exact hj))⟩
 ·rw[pR (by rw[List.length_map,cF];omega),A2,List.length_map,cF]
  unfold mI
  congr 3
  refine kL fun p hp'=>?_
  unfold GQ
  rw[List.getD_eq_getElem?_getD,List.getElem?_map,List.getD_eq_getElem?_getD (l:=bt c),List.getElem?_eq_getElem (by rw[cF];exact hp')]
  rfl
section
variable {c:Nat} {ins:List (Str × Nat)} {gs:List Gt} {os:List (Str × List Nat)}
noncomputable abbrev zL:=Str.ofString "net"
noncomputable abbrev xF:=Str.ofString "many_inputs"
noncomputable abbrev qK:=Str.ofString "full"
noncomputable abbrev mT:=Str.ofString "in_masks"
noncomputable def eh(c:Nat)(nt:D):List (Str × V3):=[(zL, .d nt),(xF, .d (nI (2 ^ c))),(qK, .d (mI (2 ^ c) one)),(mT, .d (.lst ((qu c).map (mI (2 ^ c)))))]
theorem C4{S:aH}(hc:ins.length=c)(hc1:c≤10)(hS:nD (S++[.ins 0 []])){Q:V3→aH→Prop}(h:Q (.d .cK) (S++[.ins 0 (eh c (bH ins gs os))])) :
 W3 (cH [.loc S.length, .d (bH ins gs os)] (S++[.ins 0 []])) Q:=by
 have hz:sizeLine=16777216:=sizeLine_eq
 have hp:2 ^ c≤1024:=Nat.pow_le_pow_right (by omega) hc1
 unfold cH
 refine Gr rfl ?_
 simp only[bM,cR,List.map_cons,List.map_nil,List.length_cons,List.length_nil,List.replicate,List.cons_append,List.nil_append,Nat.reduceAdd,Nat.reduceSub]
 unfold f6
 refine aT <| bF (by simp only[List.length_cons,List.length_nil,List.length_set];omega) <| cV <| ax <| cB (d:=nI c) (aN (ds:=[.lst (ins.map inD)]) rfl (by rw[n3,List.length_map,hc];rfl)) <| cf <| qv hc1 hS ⟨_,rfl,?_⟩
 simp only[List.set_cons_succ,List.set_cons_zero]
 refine aT <| hJ (k:=S.length) <| cB (d:=bH ins gs os) rfl <| w_var (v:= .loc S.length) rfl ⟨_,rfl,bG _ _,by simp,_,rfl,?_⟩
 rw[eg]
 refine aT <| hJ (k:=S.length) <| cB (d:=nI (2 ^ c)) (aN (ds:=[.lst ((bt c).map bY)]) rfl (by rw[n3,List.length_map,cF];rfl)) <| w_var (v:= .loc S.length) rfl ⟨_,rfl,bG _ _,by unfold ui;simp,_,rfl,?_⟩
 rw[eg]
 refine aT <| hJ (k:=S.length) <| cB (d:=mI (2 ^ c) one) (aN (ds:=[.lst (((bt c).map fun _=>true).map bI)]) (aR (dW (d7 (ds:=(bt c).map bY) rfl (by rw[List.length_map,cF];omega) ?_)) rfl) ?_) <| w_var (v:= .loc S.length) rfl ⟨_,rfl,bG _ _,?_,_,rfl,?_⟩
 ·rw[List.map_map]
  exact NT.d9 bY _ fun b hb=>⟨[.val (bY b)],rfl,rfl,rfl⟩
 ·rw[pR (by rw[List.length_map,cF];omega),A2,List.length_map,cF]
  unfold mI
  congr 3
  refine kL fun p hp'=>?_
  rw[List.getD_eq_getElem?_getD,List.getElem?_map,List.getElem?_eq_getElem (by rw[cF];exact hp')]
  rfl
 ·exact(by decide:2 < 1000)
 rw[eg]
 refine hJ (k:=S.length) <| cB (d:= .lst ((qu c).map (mI (2 ^ c)))) (dW (d7 (ds:=dS 0 c) (kJ (n:=c) (aN (ds:=[.lst (ins.map inD)]) rfl (by rw[n3,List.length_map,hc])) (by omega)) (by simp [dS];omega) ?_)) <| w_var (v:= .loc S.length) rfl ⟨_,rfl,bG _ _,?_,_,rfl,?_⟩
 ·unfold qu
  rw[List.map_map]
  unfold dS
  refine NT.d9 (fun i:Nat=>D.int (0+(i:Int))) _ fun j hj=>⟨[.val (.int (0+(j:Int))), .val (.lst ((bt c).map bY))],rfl,rfl,aN (ds:=[.lst ((bt c).map bY), .int j]) ?_ (vR hc1 (List.mem_range.mp hj))⟩
  rw[Int.zero_add]
  rfl
 ·exact(by decide:3 < 1000)
 rw[eg]
 exact h
end
end K26
end
section
set_option maxRecDepth 100000
set_option maxHeartbeats 4000000
namespace K26
open PySem PySem.Spec PyProof.Rows L2 L3 MT
section
variable {c:Nat} {ins:List (Str × Nat)} {gs:List Gt} {os:List (Str × List Nat)} {S:aH} {k:Nat} {turned bad:List Int}
theorem KC:(qK==zL)=false:=by decide+kernel
theorem KR:(qK==xF)=false:=by decide+kernel
theorem Kc:(mT==zL)=false:=by decide+kernel
theorem KA:(mT==xF)=false:=by decide+kernel
theorem KQ:(mT==qK)=false:=by decide+kernel
theorem zQ{nt:D}:(eh c nt).lookup zL=some (.d nt):=by unfold eh;rw [List.lookup_cons,beq_self_eq_true]
theorem xW{nt:D}:(eh c nt).lookup qK=some (.d (mI (2 ^ c) one)):=by unfold eh;rw [List.lookup_cons,KC,List.lookup_cons,KR,List.lookup_cons,beq_self_eq_true]
theorem Br{nt:D}:(eh c nt).lookup mT=some (.d (.lst ((qu c).map (mI (2 ^ c))))):=by unfold eh;rw [List.lookup_cons,Kc,List.lookup_cons,KA,List.lookup_cons,KQ,List.lookup_cons,beq_self_eq_true]
theorem o_:(qu c).length=c:=by unfold qu;simp
noncomputable abbrev Wd(c:Nat)(ins:List (Str × Nat))(gs:List Gt)(turned bad:List Int):List M:=lD ins gs (qu c) turned bad
theorem Eu(m:Str)(nt:D)(h1:(m==zL)=false)(h2:(m==xF)=false)(h3:(m==qK)=false)(h4:(m==mT)=false):(eh c nt).lookup m=none:=by unfold eh;rw [List.lookup_cons,h1,List.lookup_cons,h2,List.lookup_cons,h3,List.lookup_cons,h4];rfl
theorem AQ(NO:jb ins gs os)(hc:ins.length=c)(hS:nD S)(hb:S[k]? =some (.ins 0 (eh c (bH ins gs os)))){Q:V3→aH→Prop}(h:Q (.d (.lst (gY (2 ^ c) os (Wd c ins gs turned bad)))) S) :
 W3 (ee [.loc k, .d (.tup (turned.map .int)), .d (.tup (bad.map .int))] S) Q:=by
 have hz:sizeLine=16777216:=sizeLine_eq
 unfold ee
 refine mi hS (tT rfl ?_)
 simp only[bM,gh,List.map_cons,List.map_nil,List.length_cons,List.length_nil,List.replicate,List.cons_append,List.nil_append,Nat.reduceAdd,Nat.reduceSub]
 unfold iY
 have hl:(qu c).length=ins.length:=by rw[o_,hc]
 refine fq <| cV <| ax <| w_fld (k:=k) <| w_var (v:= .loc k) rfl ⟨_,_,rfl,hb,zQ,?_⟩
 refine ax <| cV <| ax <| w_fld (k:=k) <| w_var (v:= .loc k) rfl ⟨_,_,rfl,hb,zQ,?_⟩
 refine ax <| w_fld (k:=k) <| w_var (v:= .loc k) rfl ⟨_,_,rfl,hb,Br,?_⟩
 refine ax <| w_fld (k:=k) <| w_var (v:= .loc k) rfl ⟨_,_,rfl,hb,xW,?_⟩
 refine ax <| cB (d:= .tup (turned.map .int)) rfl <| ax <| cB (d:= .tup (bad.map .int)) rfl <| cf ?_
 refine uL (.inl rfl) NO hl hS (cf ?_)
 refine xB NO.ho (fun x hx=>⟨(NO.o x hx).1,fun w hw=>by rw[uE hl];exact(NO.o x hx).2 w hw⟩) hS ?_
 exact⟨_,rfl,by unfold fw;rfl,⟨[],by simp⟩,_,by unfold res;rfl,h⟩
noncomputable def CU(N:Nat)(os:List (Str × List Nat))(ws:List M):List D:=os.map fun x=> .tup [mI N (r0 (tell ws x)),mI N (r1 (tell ws x))]
theorem nL(NO:jb ins gs os)(hc:ins.length=c)(ho:∀x∈os,1≤x.2.length∧x.2.length≤3)(hS:nD S)(hb:S[k]? =some (.ins 0 (eh c (bH ins gs os)))){Q:V3→aH→Prop}(h:Q (.d (.lst (CU (2 ^ c) os (Wd c ins gs turned [])))) S) :
 W3 (cn [.loc k, .d (.tup (turned.map .int))] S) Q:=by
 have hz:sizeLine=16777216:=sizeLine_eq
 have hO:=NO.ho
 unfold cn
 refine mi hS (tT rfl ?_)
 simp only[bM,dt,List.map_cons,List.map_nil,List.length_cons,List.length_nil,List.replicate,List.cons_append,List.nil_append,Nat.reduceAdd,Nat.reduceSub]
 unfold f9
 refine fq <| l7 (fun j ds S2=>S2=S∧ds=(CU (2 ^ c) os (Wd c ins gs turned [])).take j) ?_
 refine yg <| sF (k:=k) <| w_var (v:= .loc k) rfl ⟨_,rfl,hb,Eu _ _ (by decide+kernel) (by decide+kernel) (by decide+kernel) (by decide+kernel),?_⟩
 refine ax <| cB (d:= .tup (turned.map .int)) rfl <| ax <| cB (d:= .tup (([]:List Int).map .int)) rfl <| cf ?_
 refine AQ NO hc hS hb ⟨_,rfl,?_,⟨rfl,by simp⟩,?_,?_⟩
 ·rw[List.length_map,gY,List.length_map];omega
 ·rintro j v ds S2 hv ⟨rfl,rfl⟩
  rw[gY] at hv
  obtain⟨x,hx,rfl⟩:=NT.j1 hv
  refine⟨[some (.d (.tup ((tell (Wd c ins gs turned []) x).map (mI (2 ^ c))))),some (.loc k)],rfl,yc ?_⟩
  rw[if_pos rfl]
  refine oA <| ax <| cB (d:= .tup ((tell (Wd c ins gs turned []) x).map (mI (2 ^ c)))) rfl <| ax <| w_fld (k:=k) <| w_var (v:= .loc k) rfl ⟨_,_,rfl,hb,xW,cf ⟨[.tup ((tell (Wd c ins gs turned []) x).map (mI (2 ^ c))),mI (2 ^ c) one],_,rfl,pH ?_,_,rfl,rfl,?_⟩⟩
  ·unfold tell;rw [List.length_map];exact ho x (List.mem_of_getElem? hx)
  ·unfold CU
   rw[List.take_add_one,List.getElem?_map,hx]
   rfl
 ·rintro ds S2 ⟨rfl,rfl⟩
  rw[List.length_map,gY,List.length_map,List.take_of_length_le (by rw[CU,List.length_map];exact Nat.le_refl _)]
  exact⟨_,rfl,by unfold fw;rfl,⟨[],by simp⟩,_,by unfold res;rfl,h⟩
end
end K26
end
section
set_option maxRecDepth 100000
set_option maxHeartbeats 4000000
namespace K26
open PySem PySem.Spec PyProof.Rows L2 L3 MT
noncomputable def bw(T:List Nat):D:= .tup (T.map nI)
theorem DB{ps:List Nat}{a:Nat}(ha:a < ps.length):Hm (.lst (ps.map nI)) (some ((a+1:Nat):Int)) none= .ok (.lst ((ps.drop (a+1)).map nI)):=by
 show R.ok (D.lst (L2.cutD (ps.map nI) (some ((a+1:Nat):Int)) none))=_
 congr 2
 unfold L2.cutD
 rw[List.length_map,HT.sO,HT.oJ,Nat.min_eq_left (by omega),←List.map_drop,←List.map_take,List.take_of_length_le (by rw[List.length_drop];omega)]
theorem Eg{ds es:List D}(h:ds.length+es.length≤sizeLine):jg (.tup ds) (.tup es)= .ok (.tup (ds++es)):=cb _ h
theorem oZ:∀(n s:Nat) (ps:List Nat),s≤n→n≤3→ps.length≤100→dr (n+1) [.lst (ps.map nI), .int s]= .ok (.lst ((gR ps s).map bw))
 | n,0,ps,_,_,_=>by
   show mW ji (jk (dr n)) _=_
   unfold jk
   exact dn (NT.iI (nP (eJ (a:= .int 0) (b:= .int 0) rfl rfl rfl) (cz rfl)))
 | 0,s+1,ps,h,_,_=>by omega
 | n+1,s+1,ps,h,hn,hp=>by
   have hz:sizeLine=16777216:=sizeLine_eq
   show mW ji (jk (dr (n+1))) _=_
   unfold jk
   have hcl:(gR ps (s+1)).length≤100 ^ (s+1):=oC hp
   have hpow:∀m,m≤3→(100:Nat) ^ m≤1000000:=fun m hm=>Nat.pow_le_pow_right (by omega) hm
   refine dn (bN (gL (eJ (a:= .int (s+1:Nat)) (b:= .int 0) (k:=false) rfl rfl ?_) rfl) ?_)
   ·show R.ok (D.bl (((s+1:Nat):Int)==0))=_
    congr 2
   refine bN (Dj (ds:=[]) rfl (by simp [cU,ji])) ?_
   let F:Nat→List (List Nat):=fun i=>(List.range i).flatMap fun a=>(gR (ps.drop (a+1)) s).map (ps.getD a 0 ::·)
   have hF:∀i,i≤ps.length→(F i).length≤i*100 ^ s:=fun i hi=>by
    show((List.range i).flatMap fun a=>(gR (ps.drop (a+1)) s).map (ps.getD a 0 ::·)).length≤_
    rw[List.length_flatMap]
    refine Nat.le_trans (wz (m:=100 ^ s) fun x hx=>?_) (by rw[List.length_map,List.length_range];exact Nat.le_refl _)
    obtain⟨a,_,rfl⟩:=List.mem_map.mp hx
    rw[List.length_map]
    exact oC (by rw[List.length_drop];omega)
   have hFs:∀i,F (i+1)=F i++(gR (ps.drop (i+1)) s).map (ps.getD i 0 ::·):=fun i=>by
    show(List.range (i+1)).flatMap _=_
    rw[List.range_succ,List.flatMap_append]
    simp [F]
   obtain⟨δ1,e1,a3,a4,a5,hδ1⟩:=i3 (t:=gz 2 (cI (bb 3) (cI (bb 4) gx))) (body:=kl (dr (n+1))) (ds:=cX (ps.map nI))
    (fun i δ=>∃a3 a4 a5,δ=[.val (.lst (ps.map nI)), .val (.int (s+1:Nat)), .bld ((F i).map bw),a3,a4,a5]) (δ:=[.val (.lst (ps.map nI)), .val (.int (s+1:Nat)), .bld [], .un, .un, .un]) ⟨.un, .un, .un,by simp [F]⟩ (by
      rintro i d δ hd ⟨a3,a4,a5,rfl⟩
      have hv:((cX (ps.map nI)).map V3.d)[i]? =some (.d d):=by rw[List.getElem?_map,hd];rfl
      obtain⟨d0,hd0,ed⟩:=oq hv
      cases ed
      obtain⟨x,hx,rfl⟩:=NT.ot hd0
      have hil:=(List.getElem?_eq_some_iff.mp hx).1
      have hxd:ps.getD i 0=x:=by rw[List.getD_eq_getElem?_getD,hx];rfl
      have hFi:=hF i (by omega)
      have hFb:i*100 ^ s≤100*100 ^ s:=Nat.mul_le_mul_right _ (by omega)
      have hp2:=hpow (s+1) (by omega)
      rw[Nat.pow_succ,Nat.mul_comm] at hp2
      rw[show gz 2 (cI (bb 3) (cI (bb 4) gx)) (.tup [.int i,nI x]) [.val (.lst (ps.map nI)), .val (.int (s+1:Nat)), .bld ((F i).map bw),a3,a4,a5]= .ok [.val (.lst (ps.map nI)), .val (.int (s+1:Nat)), .bld ((F i).map bw), .val (.int i), .val (nI x),a5] from rfl,R.aO]
      unfold kl
      have ihc:=oZ n s (ps.drop (i+1)) (by omega) (by omega) (by rw[List.length_drop];omega)
      have hdl:(gR (ps.drop (i+1)) s).length≤100 ^ s:=oC (by rw[List.length_drop];omega)
      obtain⟨δ2,e2',c5,hδ2⟩:=i3 (t:=bb 5) (body:=j0 (dr (n+1))) (ds:=(gR (ps.drop (i+1)) s).map bw)
       (fun j δ=>∃c5,δ=[.val (.lst (ps.map nI)), .val (.int (s+1:Nat)), .bld ((F i++((gR (ps.drop (i+1)) s).take j).map (x ::·)).map bw), .val (.int i), .val (nI x),c5]) (δ:=[.val (.lst (ps.map nI)), .val (.int (s+1:Nat)), .bld ((F i).map bw), .val (.int i), .val (nI x),a5]) ⟨a5,by simp⟩ (by
         rintro j d δ hd ⟨c5,rfl⟩
         obtain⟨T,hT,rfl⟩:=NT.ot hd
         have hjl:=(List.getElem?_eq_some_iff.mp hT).1
         have hTl:=(jw (List.mem_of_getElem? hT)).1
         refine⟨[.val (.lst (ps.map nI)), .val (.int (s+1:Nat)), .bld ((F i++((gR (ps.drop (i+1)) s).take (j+1)).map (x ::·)).map bw), .val (.int i), .val (nI x), .val (bw T)],?_,⟨_,rfl⟩⟩
         generalize hL:(F i++((gR (ps.drop (i+1)) s).take j).map (x ::·)).map bw=L
         have hLl:L.length < sizeLine:=by
          rw[←hL,List.length_map,List.length_append,List.length_map,List.length_take]
          omega
         rw[show bb 5 (bw T) [.val (.lst (ps.map nI)), .val (.int (s+1:Nat)), .bld L, .val (.int i), .val (nI x),c5]= .ok [.val (.lst (ps.map nI)), .val (.int (s+1:Nat)), .bld L, .val (.int i), .val (nI x), .val (bw T)] from rfl,R.aO]
         unfold j0
         rw[CB (d:=bw (x ::T)) (ds:=L) (aJ (a:= .tup [nI x]) (b:=bw T) (fB rfl (by simp;omega)) rfl (Eg (by rw[List.length_map];simp;omega))) rfl hLl,←hL,List.take_add_one,hT]
         simp [bw])
      refine⟨_,mM (ds:=(gR (ps.drop (i+1)) s).map bw) (kr (aN (ds:=[.lst ((ps.drop (i+1)).map nI), .int s]) (aR (sG (d:= .lst (ps.map nI)) (lo:=some ((i+1:Nat):Int)) (hi:=none) rfl (A6 (aJ (a:= .int i) (b:= .int 1) rfl rfl rfl)) rfl (DB hil)) (aR (aJ (a:= .int (s+1:Nat)) (b:= .int 1) rfl rfl ?_) rfl)) ihc)) e2',?_⟩
      ·show R.ok (D.int (((s+1:Nat):Int) - 1))=_
       congr 2
       omega
      ·rw[List.length_map,List.take_length] at hδ2
       refine⟨.val (.int i), .val (nI x),c5,?_⟩
       rw[hδ2,hFs,hxd])
   refine bN (mM (ds:=cX (ps.map nI)) rfl e1) ?_
   have hlen:(cX (ps.map nI)).length=ps.length:=by simp [cX]
   rw[hlen] at hδ1
   subst hδ1
   exact cz rfl
end K26
end
section
set_option maxRecDepth 100000
set_option maxHeartbeats 4000000
namespace K26
open PySem PySem.Spec PyProof.Rows L2 L3 MT
section
variable {c:Nat} {ins:List (Str × Nat)} {gs:List Gt} {os:List (Str × List Nat)} {S:aH} {k:Nat} {turned:List Int} {safe:Bool}
noncomputable abbrev lh:=Str.ofString "bench"
noncomputable abbrev pf:=Str.ofString "plain"
noncomputable abbrev mJ:=Str.ofString "unsure"
noncomputable def eo(gs:List Gt):List Nat:=(List.range gs.length).filter fun i=>match gs[i]? with | some g=>!g.2.2 | none=>false
noncomputable def gf(c:Nat)(ins:List (Str × Nat))(gs:List Gt)(os:List (Str × List Nat))(b:Nat):List (Str × V3):=[(lh, .loc b),(pf, .d (.lst (CU (2 ^ c) os (Wd c ins gs [] [])))),(mJ, .d (.lst ((eo gs).map nI)))]
theorem Ks:(pf==lh)=false:=by decide+kernel
theorem K5:(mJ==lh)=false:=by decide+kernel
theorem Kj:(mJ==pf)=false:=by decide+kernel
theorem Af{b:Nat}:(gf c ins gs os b).lookup lh=some (.loc b):=by unfold gf;rw [List.lookup_cons,beq_self_eq_true]
theorem zI{b:Nat}:(gf c ins gs os b).lookup pf=some (.d (.lst (CU (2 ^ c) os (Wd c ins gs [] [])))):=by unfold gf;rw [List.lookup_cons,Ks,List.lookup_cons,beq_self_eq_true]
theorem FY{b:Nat}:(gf c ins gs os b).lookup mJ=some (.d (.lst ((eo gs).map nI))):=by unfold gf;rw [List.lookup_cons,K5,List.lookup_cons,Kj,List.lookup_cons,beq_self_eq_true]
theorem GD{b:Nat}(m:Str)(h1:(m==lh)=false)(h2:(m==pf)=false)(h3:(m==mJ)=false):(gf c ins gs os b).lookup m=none:=by unfold gf;rw [List.lookup_cons,h1,List.lookup_cons,h2,List.lookup_cons,h3];rfl
noncomputable def TS(S:aH)(c:Nat)(ins:List (Str × Nat))(gs:List Gt)(os:List (Str × List Nat)):aH:=S++[.ins 1 (gf c ins gs os (S.length+1)), .ins 0 (eh c (bH ins gs os))]
mutual
theorem vW{n m:Nat}(h:n≤m):∀v:V3,kg n v=true→kg m v=true
 | .d _,_=>by unfold kg;rfl
 | .loc k,q=>by
   unfold kg at q ⊢
   exact decide_eq_true (Nat.lt_of_lt_of_le (of_decide_eq_true q) h)
 | .lst vs,q=>by unfold kg at q ⊢;exact iJ h vs q
 | .tup vs,q=>by unfold kg at q ⊢;exact iJ h vs q
theorem iJ{n m:Nat}(h:n≤m):∀vs:List V3,ij n vs=true→ij m vs=true
 | [],_=>by unfold ij;rfl
 | v ::vs,q=>by
   unfold ij at q ⊢
   rw[Bool.and_eq_true] at q ⊢
   exact⟨vW h v q.1,iJ h vs q.2⟩
end
theorem qP{n m:Nat}(h:n≤m)(o:SO)(q:lq n o=true):lq m o=true:=by
 cases o with
 | ins k fs=>exact iJ h _ q
 | _=>rfl
theorem nD.push{S:aH}(hS:nD S){x:SO}(hx:∀n,lq n x=true):nD (S++[x]):=fun o ho=>by
 rcases List.mem_append.mp ho with q | q
 ·exact qP (by simp) o (hS o q)
 ·rw[List.mem_singleton.mp q];exact hx _
theorem F4{S:aH}(hS:nD S){x y:SO}(hx:lq (S.length+2) x=true)(hy:lq (S.length+2) y=true):nD (S++[x,y]):=fun o ho=>by
 rw[show(S++[x,y]).length=S.length+2 by simp]
 rcases List.mem_append.mp ho with q | q
 ·exact qP (by omega) o (hS o q)
 ·simp only[List.mem_cons,List.not_mem_nil,or_false] at q
  rcases q with rfl | rfl
  ·exact hx
  ·exact hy
theorem tY{δ:aw}(hg:gs.length < 1000)(h1:ah 1 δ= .ok (bH ins gs os)):eK (eL (e2 c0 (ah 1) (eC (.int 1)))) (gz 2 (cI (bb 0) (cI (bb 1) gx))) (nA (lu (e2 c0 (ah 1) (eC (.int 2))))) (ah 0) [(Str.ofString "place"),(Str.ofString "gate")] [] δ= .ok ((eo gs).map nI):=by
 have hz:sizeLine=16777216:=sizeLine_eq
 refine d7 (ds:=cX (gs.map jS)) (zW (aJ (a:=bH ins gs os) (b:= .int 1) h1 rfl rfl)) (by simp [cX];omega) ?_
 have e:cX (gs.map jS)=(List.range gs.length).map fun i=> .tup [.int i,jS (gs.getD i (0,[],false))]:=by
  refine List.ext_getElem? fun i=>?_
  rw[List.getElem?_map,cX,List.getElem?_map,List.getElem?_zipIdx,List.getElem?_map]
  by_cases q:i < gs.length
  ·rw[List.getElem?_eq_getElem q,List.getElem?_range q]
   show some (D.tup [.int ((0+i:Nat):Int),jS gs[i]])=some (D.tup [.int i,jS (gs.getD i (0,[],false))])
   rw[Nat.zero_add,List.getD_eq_getElem?_getD,List.getElem?_eq_getElem q];rfl
  ·rw[List.getElem?_eq_none (by omega),List.getElem?_eq_none (by simp;omega)];rfl
 rw[e]
 unfold eo
 refine NT.gZ (fun i:Nat=>match gs[i]? with | some g=>!g.2.2 | none=>false) (fun i:Nat=>D.tup [.int i,jS (gs.getD i (0,[],false))]) nI fun i hi=>?_
 rw[List.mem_range] at hi
 refine⟨[.val (.int i), .val (jS (gs.getD i (0,[],false)))],rfl,?_,fun _=>rfl⟩
 rw[List.getElem?_eq_getElem hi,List.getD_eq_getElem?_getD,List.getElem?_eq_getElem hi]
 rfl
theorem A5(NO:jb ins gs os)(hc:ins.length=c)(hc1:c≤10)(ho:∀x∈os,1≤x.2.length∧x.2.length≤3)(hS:nD S){Q:V3→aH→Prop}(h:Q (.d .cK) (TS S c ins gs os)) :
 W3 (cG [.loc S.length, .d (bH ins gs os)] (S++[.ins 1 []])) Q:=by
 have hz:sizeLine=16777216:=sizeLine_eq
 unfold cG
 refine Gr rfl ?_
 simp only[bM,dw,List.map_cons,List.map_nil,List.length_cons,List.length_nil,List.replicate,List.cons_append,List.nil_append,Nat.reduceAdd,Nat.reduceSub]
 unfold fU
 have l1:(S++[SO.ins 1 []]).length=S.length+1:=by simp
 have g0:∀(x y:SO),(S++[x,y])[S.length]? =some x:=fun x y=>by rw[List.getElem?_append_right (Nat.le_refl _),Nat.sub_self];rfl
 have g1:∀(x y:SO),(S++[x,y])[S.length+1]? =some y:=fun x y=>by rw[List.getElem?_append_right (by omega),show S.length+1 - S.length=1 by omega];rfl
 have st:∀(x y z:SO),(S++[x,y]).set S.length z=S++[z,y]:=fun x y z=>by rw[List.set_append_right _ _ (Nat.le_refl _),Nat.sub_self];rfl
 have ap:∀(x y:SO),S++[x]++[y]=S++[x,y]:=fun x y=>by simp
 refine aT <| hJ (k:=S.length) <| Bb <| ax <| cB (d:=bH ins gs os) rfl <| cf <| C4 hc hc1 ?_ ⟨rfl,?_⟩
 ·rw[ap];exact F4 hS rfl rfl
 rw[ap]
 refine w_var (v:= .loc S.length) rfl ⟨_,rfl,g0 _ _,by simp,_,rfl,?_⟩
 rw[st,l1]
 have hcl:∀fs:List (Str × V3),ij (S.length+2) (fs.map (·.2))=true→nD (S++[.ins 1 fs, .ins 0 (eh c (bH ins gs os))]):=fun fs hf=>F4 hS hf rfl
 refine aT <| hJ (k:=S.length) <| sF (k:=S.length+1) <| w_fld (k:=S.length) <| w_var (v:= .loc S.length) rfl ⟨_,_,rfl,g0 _ _,(by show List.lookup lh [(lh,V3.loc (S.length+1))]=_;rw [List.lookup_cons,beq_self_eq_true]),_,rfl,g1 _ _,Eu _ _ (by decide+kernel) (by decide+kernel) (by decide+kernel) (by decide+kernel),?_⟩
 refine ax <| cB (d:= .tup (([]:List Int).map .int)) rfl <| cf <| nL NO hc ho (hcl _ ?_) (g1 _ _) ?_
 ·show(decide (S.length+1 < S.length+2) && true)=true
  rw[decide_eq_true (by omega)];rfl
 refine w_var (v:= .loc S.length) rfl ⟨_,rfl,g0 _ _,(by decide:1 < 1000),_,rfl,?_⟩
 rw[st]
 refine hJ (k:=S.length) <| cB (d:= .lst ((eo gs).map nI)) (dW (tY NO.hg rfl)) <| w_var (v:= .loc S.length) rfl ⟨_,rfl,g0 _ _,?_,_,rfl,?_⟩
 ·exact(by decide:2 < 1000)
 rw[st]
 exact h
noncomputable def iC(safe:Bool):Str:=if safe then Str.ofString "safe" else Str.ofString "right"
noncomputable def pt(ws:List M)(x:Str × List Nat)(p:Nat):Bool × Bool:=DK ((tell ws x).map (· p))
noncomputable def DJ(safe:Bool)(c:Nat)(ins:List (Str × Nat))(gs:List Gt)(os:List (Str × List Nat))(turned:List Int):M:=fun p=>os.any fun x=>brk safe (pt (Wd c ins gs [] []) x p) (pt (Wd c ins gs turned []) x p)
theorem yX{b:Nat}(NO:jb ins gs os)(hc:ins.length=c)(ho:∀x∈os,1≤x.2.length∧x.2.length≤3)(hS:nD S)(hk:S[k]? =some (.ins 1 (gf c ins gs os b)))(hb:S[b]? =some (.ins 0 (eh c (bH ins gs os)))){Q:V3→aH→Prop}
 (h:Q (.d (mI (2 ^ c) (DJ safe c ins gs os turned))) S):W3 (cW [.loc k, .d (.tup (turned.map .int)), .d (.str (iC safe))] S) Q:=by
 have hz:sizeLine=16777216:=sizeLine_eq
 unfold cW
 refine mi hS (tT rfl ?_)
 simp only[bM,dY,List.map_cons,List.map_nil,List.length_cons,List.length_nil,List.replicate,List.cons_append,List.nil_append,Nat.reduceAdd,Nat.reduceSub]
 unfold fO
 have h0:D.int 0=mI (2 ^ c) fun _=>false:=by
  unfold mI
  rw[tQ.mpr fun _ _=>rfl];rfl
 refine aT <| bF (by simp only[List.length_cons,List.length_nil,List.length_set];omega) <| cB (d:=mI (2 ^ c) fun _=>false) (by rw[←h0];rfl) ⟨_,rfl,?_⟩
 simp only[List.set_cons_succ,List.set_cons_zero]
 refine aT <| fS <| D2 <| w_fld (k:=k) <| w_var (v:= .loc k) rfl ⟨_,_,rfl,hk,zI,?_⟩
 refine sF (k:=b) <| w_fld (k:=k) <| w_var (v:= .loc k) rfl ⟨_,_,rfl,hk,Af,_,rfl,hb,Eu _ _ (by decide+kernel) (by decide+kernel) (by decide+kernel) (by decide+kernel),?_⟩
 refine ax <| cB (d:= .tup (turned.map .int)) rfl <| cf <| nL NO hc ho hS hb ⟨_,_,_,_,rfl,rfl,rfl,rfl,?_⟩
 have hzip:qm (CU (2 ^ c) os (Wd c ins gs [] [])) (CU (2 ^ c) os (Wd c ins gs turned []))=os.map fun x=> .tup [.tup [mI (2 ^ c) (r0 (tell (Wd c ins gs [] []) x)),mI (2 ^ c) (r1 (tell (Wd c ins gs [] []) x))], .tup [mI (2 ^ c) (r0 (tell (Wd c ins gs turned []) x)),mI (2 ^ c) (r1 (tell (Wd c ins gs turned []) x))]]:=by
  unfold qm CU
  rw[List.zip_map',List.map_map];rfl
 rw[hzip]
 refine(cu (fun i δ S2=>S2=S∧∃a4 a5,δ=[some (.loc k),some (.d (.tup (turned.map .int))),some (.d (.str (iC safe))),some (.d (mI (2 ^ c) fun p=>(os.take i).any fun x=>brk safe (pt (Wd c ins gs [] []) x p) (pt (Wd c ins gs turned []) x p))),a4,a5])
  ⟨rfl,none,none,rfl⟩ ?_).mono fun o S2 ⟨δ2,e2',hS2,a4,a5,hδ⟩=>⟨δ2,e2',?_⟩
 ·rintro i v δ S2 hv ⟨rfl,a4,a5,rfl⟩
  obtain⟨x,hx,rfl⟩:=NT.j1 hv
  generalize hm:(fun p=>(os.take i).any fun x=>brk safe (pt (Wd c ins gs [] []) x p) (pt (Wd c ins gs turned []) x p))=m
  have hnext:(fun p=>(os.take (i+1)).any fun x=>brk safe (pt (Wd c ins gs [] []) x p) (pt (Wd c ins gs turned []) x p))=fun p=>m p || brk safe (pt (Wd c ins gs [] []) x p) (pt (Wd c ins gs turned []) x p):=by
   funext p
   rw[List.take_add_one,hx,List.any_append,←hm]
   simp
  rw[hnext]
  refine⟨[some (.loc k),some (.d (.tup (turned.map .int))),some (.d (.str (iC safe))),some (.d (mI (2 ^ c) m)),some (.d (.tup [mI (2 ^ c) (r0 (tell (Wd c ins gs [] []) x)),mI (2 ^ c) (r1 (tell (Wd c ins gs [] []) x))])),some (.d (.tup [mI (2 ^ c) (r0 (tell (Wd c ins gs turned []) x)),mI (2 ^ c) (r1 (tell (Wd c ins gs turned []) x))]))],rfl,?_⟩
  unfold gK
  refine mF <| rH (b:=safe) (eJ (a:= .str (iC safe)) (b:= .str (Str.ofString "safe")) rfl rfl ?_) ?_
  ·show R.ok (D.bl (iC safe==Str.ofString "safe"))=_
   congr 2
   cases safe <;> decide+kernel
  cases safe with
  | true=>
    rw[if_pos rfl]
    refine bF (by simp only[List.length_cons,List.length_nil,List.length_set];omega) <| cB (aJ (aJ (a:=mI (2 ^ c) m) rfl (aJ (aJ rfl rfl yi) (aJ rfl rfl zi) (pO _ _ _)) (uP _ _ _)) (aJ (aJ rfl rfl zi) (aJ rfl rfl yi) (pO _ _ _)) (uP _ _ _)) ⟨_,rfl,rfl,some (.d (.tup [mI (2 ^ c) (r0 (tell (Wd c ins gs [] []) x)),mI (2 ^ c) (r1 (tell (Wd c ins gs [] []) x))])),some (.d (.tup [mI (2 ^ c) (r0 (tell (Wd c ins gs turned []) x)),mI (2 ^ c) (r1 (tell (Wd c ins gs turned []) x))])),?_⟩
    simp only[List.set_cons_succ,List.set_cons_zero]
    congr 6
    refine tm fun p _=>?_
    rw[Bool.or_assoc];rfl
  | false=>
    rw[if_neg (by decide)]
    refine bF (by simp only[List.length_cons,List.length_nil,List.length_set];omega) <| cB (aJ (aJ (a:=mI (2 ^ c) m) rfl (aJ (aJ rfl rfl yi) (aJ rfl rfl yi) (xK _ _ _)) (uP _ _ _)) (aJ (aJ rfl rfl zi) (aJ rfl rfl zi) (xK _ _ _)) (uP _ _ _)) ⟨_,rfl,rfl,some (.d (.tup [mI (2 ^ c) (r0 (tell (Wd c ins gs [] []) x)),mI (2 ^ c) (r1 (tell (Wd c ins gs [] []) x))])),some (.d (.tup [mI (2 ^ c) (r0 (tell (Wd c ins gs turned []) x)),mI (2 ^ c) (r1 (tell (Wd c ins gs turned []) x))])),?_⟩
    simp only[List.set_cons_succ,List.set_cons_zero]
    congr 6
    refine tm fun p _=>?_
    rw[Bool.or_assoc];rfl
 rw[List.length_map,List.length_map,List.take_length] at hδ
 subst hδ hS2
 exact fq <| cB (d:=mI (2 ^ c) (DJ safe c ins gs os turned)) rfl ⟨_,rfl,by unfold fw;rfl,⟨[],by simp⟩,_,by unfold res;rfl,h⟩
end
end K26
end
section
set_option maxRecDepth 100000
set_option maxHeartbeats 4000000
namespace K26
open PySem PySem.Spec PyProof.Rows L2 L3 MT
noncomputable def nZ(ps:List Nat):List Int:=ps.map fun(n:Nat)=>(n:Int)
theorem yk(ps:List Nat):(nZ ps).map D.int=ps.map nI:=by unfold nZ;rw [List.map_map];rfl
theorem Be(ps:List Nat)(i:Nat):(nZ ps).contains (i:Int)=ps.contains i:=by
 rw[Bool.eq_iff_iff]
 unfold nZ
 simp only[List.contains_iff_mem,List.mem_map]
 exact⟨fun⟨a,ha,e⟩=>(by rw[←Int.ofNat_inj.mp e];exact ha),fun h=>⟨i,h,rfl⟩⟩
section
variable {c:Nat} {ins:List (Str × Nat)} {gs:List Gt} {os:List (Str × List Nat)} {S:aH} {k:Nat} {safe:Bool}
theorem w9:(eo gs).length≤gs.length:=by
 unfold eo
 exact Nat.le_trans (List.length_filter_le _ _) (by rw[List.length_range];exact Nat.le_refl _)
end
end K26
end
section
set_option maxRecDepth 100000
set_option maxHeartbeats 4000000
namespace K26
open PySem PySem.Spec PyProof.Rows L2 L3 MT
theorem jX{n i:Nat}{d:D}(h:(dS 0 n)[i]? =some d):i < n∧d= .int i:=by
 rw[dS,List.getElem?_map] at h
 cases q:(List.range n)[i]? with
 | none=>rw [q] at h;cases h
 | some j=>
   rw[q] at h;cases h
   obtain⟨q1,q2⟩:=List.getElem?_eq_some_iff.mp q
   rw[List.getElem_range] at q2
   rw[List.length_range] at q1
   subst q2
   exact⟨q1,by simp⟩
theorem EV{ds:List D}{i:Nat}{x:D}(h:ds[i]? =some x):nK ds (i:Int)=some x:=by
 obtain⟨h1,h2⟩:=List.getElem?_eq_some_iff.mp h
 rw[lM (by omega) (by rw[Int.toNat_natCast];exact h1)]
 simp [h2]
section
variable {gs:List Gt}
end
section
variable {S:aH} {δ:DE} {k q i:Nat} {ks:List Int}
theorem xg{Q:V3→aH→Prop}{f:FD}{m:Int}(hv:δ[i]? =some (some (.loc k)))(p:sU k S)(hf:f (cD S δ)= .ok (.int m))(hm:0 < m)(hm2:m < 1000000)
 (h:∀(r:Int) S1,0≤r→r < m→Ev k S S1→Q (.d (.int r)) S1):W3 (bQ aI (av (bK i) (av (xT f) bU)) δ S) Q:=
 cV (ax (w_var hv (ax (xp hf rfl (cf (yd p hm hm2 fun r S1 h1 h2 p1 hl ho=>h r S1 h1 h2 ⟨p1,hl,ho⟩))))))
theorem eU{ds:List D}(e:S[q]? =some (.lst ds)):res S (.loc q)=some (.lst ds):=by unfold res;rw [e]
theorem nB(e:S[q]? =some (.lst (ks.map .int)))(hi:δ[i]? =some (some (.loc q))):aX eP (ay (ah i) aV) (cD S δ)= .ok (.int ks.length):=by
 refine aN (ds:=[.lst (ks.map .int)]) (aR ?_ rfl) (by rw[n3,List.length_map])
 unfold ah cD
 rw[List.getElem?_map,hi]
 show(match some (match res S (.loc q) with | some d=>Sl.val d | none=> .un) with | some (.val d)=>R.ok d | _=> .no)=_
 rw[eU e]
theorem DW{w:Nat}(h:w < ks.length):c0 (.lst (ks.map .int)) (nI w)= .ok (.int ks[w]):=sN (EV (by rw[List.getElem?_map,List.getElem?_eq_getElem h];rfl))
theorem Co{own:List Str}{kp:List Nat}{it:FA}{w:Nat}{Q:V3→aH→Prop}(e:S[q]? =some (.lst (ks.map .int)))(hw:w < ks.length)(hn:ks.length < 10000)(hkp:fQ own kp δ=[none,some (.loc q),some (.d (nI w))])
 (hit:W3 (it δ S) fun vs S1=>vs=(dS 0 ks.length).map .d∧S1=S) (h:∀l:List Nat,0 < l.length→l.length < 10000→(∀x∈l,x < ks.length∧ks.getD x 0=ks.getD w 0)→Q (.d (.lst (l.map nI))) S) :
 W3 (jJ it (iG 0) (bT (b2 jl (e2 c0 (ah 1) (ah 0)) (e2 c0 (ah 1) (ah 2)))) (xP (ah 0)) own kp δ S) Q:=by
 have hz:sizeLine=16777216:=sizeLine_eq
 refine l7 (fun i ds S2=>S2=S∧∃l:List Nat,ds=l.map nI∧(∀x∈l,x < ks.length∧ks.getD x 0=ks.getD w 0)∧l.length≤i∧(w < i→0 < l.length)) (hit.mono fun vs S1 ⟨e1,e2'⟩=>?_)
 subst e1 e2'
 have hlen:((dS 0 ks.length).map V3.d).length=ks.length:=by simp [dS]
 rw[hlen]
 refine⟨by omega,⟨rfl,[],rfl,by simp,by simp,by omega⟩,?_,?_⟩
 ·rintro i v ds S2 hv ⟨rfl,l,rfl,hl,hli,hw'⟩
  rw[hkp]
  rw[List.getElem?_map] at hv
  cases qq:(dS 0 ks.length)[i]? with
  | none=>rw [qq] at hv;cases hv
  | some d0=>
    rw[qq] at hv
    obtain⟨hi,rfl⟩:=jX qq
    cases hv
    refine⟨[some (.d (.int i)),some (.loc q),some (.d (nI w))],rfl,CK (b:=decide (ks[i]=ks[w])) ?_ ?_⟩
    ·have hT:cD S2 [some (.d (.int i)),some (.loc q),some (.d (nI w))]=[.val (nI i), .val (.lst (ks.map .int)), .val (nI w)]:=by
      simp only[cD,List.map_cons,List.map_nil,eU e]
      rfl
     rw[hT]
     exact eJ (a:= .int ks[i]) (b:= .int ks[w]) (aJ (a:= .lst (ks.map .int)) (b:=nI i) rfl rfl (DW hi)) (aJ (a:= .lst (ks.map .int)) (b:=nI w) rfl rfl (DW hw)) rfl
    ·by_cases hc:ks[i]=ks[w]
     ·rw[decide_eq_true hc,if_pos rfl]
      refine cB rfl ⟨nI i,rfl,rfl,l++[i],by simp,?_,by simp;omega,by simp⟩
      intro x hx
      rcases List.mem_append.mp hx with z | z
      ·exact hl x z
      ·rw[List.mem_singleton] at z;subst z;exact⟨hi,by rw[List.getD_eq_getElem?_getD,List.getD_eq_getElem?_getD,List.getElem?_eq_getElem hi,List.getElem?_eq_getElem hw,hc]⟩
     ·rw[decide_eq_false hc,if_neg (by decide)]
      refine⟨rfl,l,rfl,hl,by omega,fun hwi=>hw' ?_⟩
      have:w≠i:=fun z=>hc (by subst z;rfl)
      omega
 ·rintro ds S2 ⟨rfl,l,rfl,hl,hli,hw'⟩
  exact h l (hw' hw) (by omega) hl
theorem De{f:FX}{fm:FD}{l:List Nat}{Q:V3→aH→Prop}(hf:W3 (f δ S) fun v S1=>v= .d (.lst (l.map nI))∧S1=S)(hv:δ[i]? =some (some (.loc k)))(p:sU k S)(hm:fm (down δ)= .ok (.int l.length))(hl:0 < l.length)(hl2:l.length < 10000)
 (h:∀x S1,x∈l→Ev k S S1→Q (.d (nI x)) S1):W3 (D1 f (bQ aI (av (bK i) (av (xP fm) bU))) δ S) Q:=by
 refine ET (hf.mono fun v S1 ⟨e1,e2'⟩=>?_)
 subst e1 e2'
 refine draw hv p hm (by omega) (by omega) fun r S2 h1 h2 v2=>⟨_,_,nI (l[r.toNat]'(by omega)),rfl,rfl,sN ?_,h _ S2 (List.getElem_mem _) v2⟩
 rw[lM h1 (by rw[List.length_map];omega)]
 simp
end
theorem uS(ws:List Nat):md (.tup (ws.map nI))=true:=by
 unfold md
 induction ws with
 | nil=>unfold k8;rfl
 | cons w ws ih=>rw [List.map_cons];unfold k8;rw [ih];rfl
theorem A7(c:Int)(n:Nat):(List.replicate n [D.int c]).flatten=(List.replicate n c).map D.int:=by
 induction n with
 | zero=>rfl
 | succ n ih=>rw [List.replicate_succ,List.flatten_cons,ih,List.replicate_succ];rfl
theorem EX{f:aw→R (List D)}{g:FD}{δ:aw}{ds:List D}{n:Nat}(h1:f δ= .ok ds)(h2:g δ= .ok (.int n))(hn:n < 1000000)(hl:ds.length*n≤sizeLine):Ds f g δ= .ok (List.replicate n ds).flatten:=by
 unfold Ds
 rw[h1,R.aO,h2,R.aO]
 show R.bE (decide (0≤(n:Int)∧(n:Int) < 1000000∧ds.length*(n:Int).toNat≤sizeLine)) _=_
 rw[cb _ ⟨by omega,by omega,by rw[Int.toNat_natCast];exact hl⟩,Int.toNat_natCast]
noncomputable def pv(l:List (Str × Nat))(gs:List Gt)(ms:List M)(p n:Nat):Bool:=g6 (kI gs [] (cZ l ms [] l.length) gs.length) n p
theorem ox{gs:List Gt}{t:List Int}{w0:List M}{n:Nat}:∀{j i:Nat},i≤j→j≤gs.length→n < w0.length+i→g6 (kI gs t w0 j) n=g6 (kI gs t w0 i) n
 | 0,i,h,_,_=>by rw[show i=0 by omega]
 | j+1,i,h,hj,hn=>by
   by_cases q:i=j+1
   ·rw[q]
   ·rw[←ox (j:=j) (i:=i) (by omega) (by omega) hn]
    conv=>lhs;unfold kI
    rw[List.getElem?_eq_getElem (by omega:j < gs.length)]
    show g6 (kI gs t w0 j++[_]) n=_
    rw[oB (by rw[lU j (by omega)];omega)]
theorem xJ{gs hs:List Gt}{t:List Int}{w0:List M}:∀i,i≤gs.length→kI (gs++hs) t w0 i=kI gs t w0 i
 | 0,_=>rfl
 | i+1,hi=>by
   unfold kI
   rw[List.getElem?_append_left (by omega),List.getElem?_eq_getElem (by omega:i < gs.length),xJ i (by omega)]
theorem tU{l:List (Str × Nat)}{x:Str × Nat}{ms:List M}{bad:List Int}:∀i,i≤l.length→cZ (l++[x]) ms bad i=cZ l ms bad i
 | 0,_=>rfl
 | i+1,hi=>by
   unfold cZ
   rw[List.getElem?_append_left (by omega),tU i (by omega)]
theorem qJ{l:List (Str × Nat)}{ms:List M}{bad:List Int}(hb:l.length≤ms.length):∀i,i≤l.length→(cZ l ms bad i).length=gA (l.take i)
 | 0,_=>rfl
 | i+1,hi=>by
   have h1:l[i]? =some l[i]:=List.getElem?_eq_getElem (by omega)
   have h2:ms[i]? =some ms[i]:=List.getElem?_eq_getElem (by omega)
   unfold cZ
   rw[h1,h2]
   show(fM bad ms[i] l[i].2 (cZ l ms bad i)).length=_
   rw[fY,qJ hb i (by omega),List.take_add_one,h1]
   unfold gA
   simp only[Option.toList_some,List.map_append,List.sum_append,List.map_cons,List.map_nil,List.sum_cons,List.sum_nil]
   omega
theorem rC(b:M):∀m ws n,n < ws.length→g6 (fM [] b m ws) n=g6 ws n
 | 0,ws,n,h=>rfl
 | m+1,ws,n,h=>by unfold fM;rw [oB (by rw[fY];omega)];exact rC b m ws n h
theorem rf(b:M):∀m ws n,ws.length≤n→n < ws.length+m→g6 (fM [] b m ws) n=b
 | 0,ws,n,h,h2=>by omega
 | m+1,ws,n,h,h2=>by
   have hl:=fY [] b m ws
   unfold fM
   by_cases q:n < ws.length+m
   ·rw[oB (by omega)];exact rf b m ws n h q
   ·rw[show n=(fM [] b m ws).length by omega,pT]
    funext p
    simp
structure CG (l:List (Str × Nat)) (ks:List Int):Prop where
 len:ks.length=gA l
 v:∀n,n < ks.length→∃j:Nat,j < l.length∧ks.getD n 0=(j:Int)∧∀ms:List M,l.length≤ms.length→g6 (cZ l ms [] l.length) n=ms.getD j fun _=>false
theorem CG.nil:CG [] []:=⟨rfl,fun n h=>by simp at h⟩
theorem i8{ks:List Int}{xs:List Int}{n:Nat}(h:n < ks.length):(ks++xs).getD n 0=ks.getD n 0:=by rw[List.getD_eq_getElem?_getD,List.getElem?_append_left h,List.getD_eq_getElem?_getD]
theorem CG.add{l:List (Str × Nat)}{ks:List Int}(h:CG l ks)(s:Str)(w:Nat):CG (l++[(s,w)]) (ks++List.replicate w (l.length:Int)):=by
 have hw:gA (l++[(s,w)])=gA l+w:=by simp [gA]
 refine⟨by rw[List.length_append,List.length_replicate,h.len,hw],fun n hn=>?_⟩
 rw[List.length_append,List.length_replicate] at hn
 have step:∀ms:List M,(l++[(s,w)]).length≤ms.length→cZ (l++[(s,w)]) ms [] (l++[(s,w)]).length=fM [] (ms.getD l.length fun _=>false) w (cZ l ms [] l.length)∧(cZ l ms [] l.length).length=ks.length:=fun ms hms=>by
  rw[List.length_append] at hms ⊢
  have hms:l.length < ms.length:=hms
  refine⟨?_,by rw[qJ (by omega) _ (Nat.le_refl _),List.take_length,h.len]⟩
  show cZ (l++[(s,w)]) ms [] (l.length+1)=_
  conv=>lhs;unfold cZ
  rw[List.getElem?_append_right (Nat.le_refl _),Nat.sub_self,List.getElem?_eq_getElem hms,tU _ (Nat.le_refl _),List.getD_eq_getElem?_getD,List.getElem?_eq_getElem hms]
  rfl
 by_cases q:n < ks.length
 ·obtain⟨j,hj,hk,hv⟩:=h.v n q
  refine⟨j,by rw[List.length_append];omega,by rw[i8 q];exact hk,fun ms hms=>?_⟩
  obtain⟨e1,e2⟩:=step ms hms
  rw[e1,rC _ _ _ _ (by omega)]
  exact hv ms (by rw[List.length_append] at hms;omega)
 ·refine⟨l.length,by rw[List.length_append];simp,?_,fun ms hms=>?_⟩
  ·rw[List.getD_eq_getElem?_getD,List.getElem?_append_right (by omega),List.getElem?_replicate,if_pos (by omega)];rfl
  ·obtain⟨e1,e2⟩:=step ms hms
   rw[e1,rf _ _ _ _ (by omega) (by omega)]
structure KI (l:List (Str × Nat)) (gs:List Gt) (ks:List Int):Prop where
 len:ks.length=gA l+gs.length
 b:∀n,n < ks.length→ks.getD n 0 < (l.length:Int)+gs.length
 v:∀ms:List M,ms.length=l.length→∀p n n',n < ks.length→n' < ks.length→ks.getD n 0=ks.getD n' 0→pv l gs ms p n=pv l gs ms p n'
theorem CG.ki{l:List (Str × Nat)}{ks:List Int}(h:CG l ks):KI l [] ks:=by
 refine⟨by rw[h.len];rfl,fun n hn=>?_,fun ms hms p n n' hn hn' e=>?_⟩
 ·obtain⟨j,hj,hk,_⟩:=h.v n hn
  rw[hk];simp;omega
 ·obtain⟨j,hj,hk,hv⟩:=h.v n hn
  obtain⟨j',hj',hk',hv'⟩:=h.v n' hn'
  have:j=j':=by rw[hk,hk'] at e;omega
  subst this
  show g6 (cZ l ms [] l.length) n p=g6 (cZ l ms [] l.length) n' p
  rw[hv ms (by omega),hv' ms (by omega)]
section
variable {l:List (Str × Nat)} {gs:List Gt} {g:Gt} {ms:List M} {p n:Nat} {ks:List Int}
theorem A3(hms:ms.length=l.length):(cZ l ms [] l.length).length=gA l:=by rw[lZ hms _ (Nat.le_refl _),List.take_length]
theorem A4(hms:ms.length=l.length)(hn:n < gA l+gs.length):pv l (gs++[g]) ms p n=pv l gs ms p n:=by
 have h0:=A3 hms
 unfold pv
 rw[ox (gs:=gs++[g]) (i:=gs.length) (by rw[List.length_append];omega) (Nat.le_refl _) (by omega),xJ _ (Nat.le_refl _)]
theorem DI{i:Nat}(hms:ms.length=l.length)(h:gs[i]? =some g)(hg:ur (gA l+i) g):pv l gs ms p (gA l+i)=gv g.1 (g.2.1.map (pv l gs ms p)):=by
 have h0:=A3 hms
 have hi:=(List.getElem?_eq_some_iff.mp h).1
 unfold pv
 rw[ox (i:=i+1) (by omega) (Nat.le_refl _) (by omega)]
 conv=>lhs;unfold kI
 rw[h]
 show g6 (kI gs [] (cZ l ms [] l.length) i++[fun p=>gF g (kI gs [] (cZ l ms [] l.length) i) p !=false]) (gA l+i) p=_
 have hl:=lU (gs:=gs) (turned:=[]) (w0:=cZ l ms [] l.length) i (by omega)
 rw[show gA l+i=(kI gs [] (cZ l ms [] l.length) i).length by omega,pT]
 show(gv g.1 (g.2.1.map fun n=>g6 (kI gs [] (cZ l ms [] l.length) i) n p) !=false)=_
 have:g.2.1.map (fun n=>g6 (kI gs [] (cZ l ms [] l.length) i) n p)=g.2.1.map fun n=>g6 (kI gs [] (cZ l ms [] l.length) gs.length) n p:=List.map_congr_left fun z hz=>by
  rw[ox (j:=gs.length) (i:=i) (by omega) (Nat.le_refl _) (by have:=hg.2.2 z hz;omega)]
 rw[this]
 simp
theorem Ai{f:Nat→Bool}{ks:List Int}{N:Nat}(hf:∀a b,a < N→b < N→ks.getD a 0=ks.getD b 0→f a=f b):∀{u v:List Nat},(∀x∈u,x < N)→(∀x∈v,x < N)→u.map (ks.getD · 0)=v.map (ks.getD · 0)→u.map f=v.map f
 | [],[],_,_,_=>rfl
 | [],_ ::_,_,_,h=>by simp at h
 | _ ::_,[],_,_,h=>by simp at h
 | a ::u,b ::v,h1,h2,h=>by
   rw[List.map_cons,List.map_cons] at h
   obtain⟨e1,e2⟩:=List.cons.inj h
   rw[List.map_cons,List.map_cons,hf a b (h1 a List.mem_cons_self) (h2 b List.mem_cons_self) e1,Ai hf (fun x hx=>h1 x (List.mem_cons_of_mem _ hx)) (fun x hx=>h2 x (List.mem_cons_of_mem _ hx)) e2]
theorem KI.add{x:Int}(h:KI l gs ks)(hgs:∀(i:Nat) (g:Gt),gs[i]? =some g→ur (gA l+i) g)(hg:ur ks.length g)
 (hx:x=(l.length:Int)+gs.length∨∃pl g0,gs[pl]? =some g0∧x=ks.getD (gA l+pl) 0∧g.1=g0.1∧g.2.1.map (ks.getD · 0)=g0.2.1.map (ks.getD · 0)):KI l (gs++[g]) (ks++[x]):=by
 have hl:=h.len
 have hlast:(ks++[x]).getD ks.length 0=x:=by rw[List.getD_eq_getElem?_getD,List.getElem?_append_right (Nat.le_refl _),Nat.sub_self];rfl
 have hll:(ks++[x]).length=ks.length+1:=by simp
 refine⟨by rw[hll,hl,List.length_append];rfl,fun n hn=>?_,?_⟩
 ·rw[hll] at hn
  rw[List.length_append,List.length_singleton]
  by_cases q:n < ks.length
  ·rw[i8 q];have:=h.b n q;omega
  ·rw[show n=ks.length by omega,hlast]
   rcases hx with rfl | ⟨pl,g0,h0,rfl,_⟩
   ·omega
   ·have:=h.b (gA l+pl) (by have:=(List.getElem?_eq_some_iff.mp h0).1;omega);omega
 ·intro ms hms p
  have new:∀pl g0,gs[pl]? =some g0→x=ks.getD (gA l+pl) 0→g.1=g0.1→g.2.1.map (ks.getD · 0)=g0.2.1.map (ks.getD · 0)→pv l (gs++[g]) ms p ks.length=pv l gs ms p (gA l+pl):=fun pl g0 h0 _ e1 e2=>by
   have hpl:=(List.getElem?_eq_some_iff.mp h0).1
   have hgat:(gs++[g])[gs.length]? =some g:=by rw[List.getElem?_append_right (Nat.le_refl _),Nat.sub_self];rfl
   rw[hl,DI hms hgat (by rw[←hl];exact hg),DI hms h0 (hgs pl g0 h0),e1]
   have e3:g.2.1.map (pv l (gs++[g]) ms p)=g.2.1.map (pv l gs ms p):=List.map_congr_left fun z hz=>A4 hms (by have:=hg.2.2 z hz;omega)
   rw[e3]
   congr 1
   exact Ai (N:=ks.length) (fun a b ha hb e=>h.v ms hms p a b ha hb e) hg.2.2 (fun z hz=>by have:=(hgs pl g0 h0).2.2 z hz;omega) e2
  have old:∀n,n < ks.length→pv l (gs++[g]) ms p n=pv l gs ms p n:=fun n hn=>A4 hms (by omega)
  have mix:∀n,n < ks.length→ks.getD n 0=x→pv l (gs++[g]) ms p n=pv l (gs++[g]) ms p ks.length:=fun n hn e=>by
   rcases hx with rfl | ⟨pl,g0,h0,hx,e1,e2⟩
   ·have:=h.b n hn;omega
   ·rw[new pl g0 h0 hx e1 e2,old n hn]
    exact h.v ms hms p n _ hn (by have:=(List.getElem?_eq_some_iff.mp h0).1;omega) (e.trans hx)
  intro n n' hn hn' e
  rw[hll] at hn hn'
  by_cases q:n < ks.length
  ·rw[i8 q] at e
   by_cases q':n' < ks.length
   ·rw[i8 q'] at e
    rw[old n q,old n' q']
    exact h.v ms hms p n n' q q' e
   ·have en':n'=ks.length:=by omega
    subst en'
    rw[hlast] at e
    exact mix n q e
  ·have en:n=ks.length:=by omega
   subst en
   by_cases q':n' < ks.length
   ·rw[i8 q',hlast] at e
    exact(mix n' q' e.symm).symm
   ·rw[show n'=ks.length by omega]
end
theorem sU.app{k:Nat}{S X:aH}(p:sU k S)(hX:Flat X):sU k (S++X):=by
 have h:=p.lt
 obtain⟨hL,a,c,e⟩:=p
 exact⟨fun o ho=>(List.mem_append.mp ho).elim (hL o) (hX o),a,c,by rw[List.getElem?_append_left h];exact e⟩
theorem Ev.split{k:Nat}{S X S2:aH}(v:Ev k (S++X) S2)(hk:k < S.length):∃S',S2=S'++X∧Ev k S S':=by
 have hl:=v.len
 rw[List.length_append] at hl
 refine⟨S2.take S.length,?_,⟨v.p.1.take _,?_⟩,by rw[List.length_take];omega,fun j hj=>?_⟩
 ·have e:S2.drop S.length=X:=by
   refine List.ext_getElem? fun i=>?_
   rw[List.getElem?_drop,v.oth _ (by omega),List.getElem?_append_right (by omega),show S.length+i - S.length=i by omega]
  rw[←e,List.take_append_drop]
 ·obtain⟨_,a,c,e⟩:=v.p
  exact⟨a,c,by rw[List.getElem?_take_of_lt hk];exact e⟩
 ·by_cases q:j < S.length
  ·rw[List.getElem?_take_of_lt q,v.oth j hj,List.getElem?_append_left q]
  ·rw[List.getElem?_eq_none (by rw[List.length_take];omega),List.getElem?_eq_none (by omega)]
theorem uO(a:List D):Flat [SO.lst a]:=fun o ho=>by rw[List.mem_singleton.mp ho];exact ph _
theorem j8(a b:List D):Flat [SO.lst a,SO.lst b]:=fun o ho=>by
 simp only[List.mem_cons,List.not_mem_nil,or_false] at ho
 rcases ho with rfl | rfl <;> exact ph _
theorem mz(a b c:List D):Flat [SO.lst a,SO.lst b,SO.lst c]:=fun o ho=>by
 simp only[List.mem_cons,List.not_mem_nil,or_false] at ho
 rcases ho with rfl | rfl | rfl <;> exact ph _
theorem rW{k:Nat}{S S1 X:aH}{d:D}{v:V3}{Q:V3→aH→Prop}(e:Ev k S S1)(hX:Flat X)(hg:fw S.length v=true)(hr:res (S1++X) v=some d)(h:Q (.d d) S1):Flat (S1++X)∧fw S.length v=true∧∃d,res (S1++X) v=some d∧Q (.d d) ((S1++X).take S.length):=by
 refine⟨fun o ho=>(List.mem_append.mp ho).elim (e.p.1 o) (hX o),hg,d,hr,?_⟩
 rw[←e.len,List.take_left]
 exact h
end K26
end
section
set_option maxRecDepth 100000
set_option maxHeartbeats 4000000
namespace K26
open PySem PySem.Spec PyProof.Rows L2 L3 MT
noncomputable def zS:List Str:=[Str.ofString "a",Str.ofString "bb",Str.ofString "signal",Str.ofString "x",Str.ofString "yes",Str.ofString "abcdefgh"]
theorem Ey:∀s∈zS,gp 0 (.str s):=fun s hs=>by
 simp only[zS,List.mem_cons,List.not_mem_nil,or_false] at hs
 rcases hs with rfl | rfl | rfl | rfl | rfl | rfl <;> exact gp.str (by decide+kernel)
theorem HF{n:Int}(h0:0≤n)(h:n < 6):∃s∈zS,c0 (.lst (zS.map .str)) (.int n)= .ok (.str s):=by
 refine⟨zS[n.toNat]'(by simp [zS];omega),List.getElem_mem _,?_⟩
 obtain⟨m,rfl⟩:=Int.eq_ofNat_of_zero_le h0
 exact NT.mC (by rw[List.getElem?_map,List.getElem?_eq_getElem (by simp [zS];omega)];rfl)
noncomputable def En(x:Str × Nat):Prop:=(1≤x.2∧x.2≤3)∧gp 0 (.str x.1)
theorem s_{S:aH}{k:Nat}{mo:Int}(p:sU k S)(hmo:1≤mo∧mo≤6){Q:V3→aH→Prop}
 (h:∀(l:List (Str × Nat)) S1,(∀x∈l,En x)→1≤l.length→(l.length:Int)≤mo→Ev k S S1→Q (.d (.lst (l.map MT.inD))) S1) :
 W3 (dO [.loc k, .d (.int mo), .d (.int 3)] S) Q:=by
 have hz:sizeLine=16777216:=sizeLine_eq
 have hk:=p.lt
 unfold dO
 refine qS (tT rfl ?_)
 simp only[bM,fE,List.map_cons,List.map_nil,List.length_cons,List.length_nil,List.replicate,List.cons_append,List.nil_append,Nat.reduceAdd,Nat.reduceSub]
 unfold iq
 refine aT <| bF (by simp only[List.length_cons,List.length_nil,List.length_set];omega) <| cB (d:= .lst (zS.map .str)) rfl ⟨_,rfl,?_⟩
 simp only[List.set_cons_succ,List.set_cons_zero]
 refine aT <| bF (by simp only[List.length_cons,List.length_nil,List.length_set];omega) <| draw (k:=k) rfl p rfl (by omega) (by omega) fun t S1 h1 h2 v1=>⟨_,rfl,?_⟩
 simp only[List.set_cons_succ,List.set_cons_zero]
 refine aT <| bF (by simp only[List.length_cons,List.length_nil,List.length_set];omega) <| i7 (ds:=[]) rfl ⟨_,rfl,?_⟩
 simp only[List.set_cons_succ,List.set_cons_zero]
 have l1:=v1.len
 refine aT <| fS <| oT <| FK <| cB (d:= .int 1) rfl <| draw (k:=k) rfl (v1.p.app (uO [])) rfl hmo.1 (by omega) fun r S2 h3 h4 v2=>?_
 obtain⟨S3,rfl,v3⟩:=v2.split (by omega)
 obtain⟨n,rfl⟩:=Int.eq_ofNat_of_zero_le h3
 refine⟨_,_, .int ((1+n:Nat):Int),rfl,rfl,?_,1+n,rfl,by omega,?_⟩
 ·show R.ok (D.int (1+(n:Int)))=_
  congr 2
 refine(cu (fun i δ S4=>∃(l:List (Str × Nat)) (S':aH) (a6:Option V3),l.length=i∧(∀x∈l,En x)∧Ev k S S'∧S4=S'++[.lst (l.map MT.inD)]∧δ=[some (.loc k),some (.d (.int mo)),some (.d (.int 3)),some (.d (.lst (zS.map .str))),some (.d (.int t)),some (.loc S1.length),a6])
  ⟨[],S3,none,rfl,by simp,v1.trans v3,rfl,rfl⟩ ?_).mono fun o S4 ⟨δ4,e4,l,S',a6,hl,hlo,vS,hS4,hδ⟩=>⟨δ4,e4,?_⟩
 ·rintro i v δ S4 hv ⟨l,S',a6,hl,hlo,vS,rfl,rfl⟩
  obtain⟨hi,rfl⟩:=NT.jX hv
  have lS:=vS.len
  refine⟨[some (.loc k),some (.d (.int mo)),some (.d (.int 3)),some (.d (.lst (zS.map .str))),some (.d (.int t)),some (.loc S1.length),some (.d (.int i))],rfl,?_⟩
  unfold i_
  have hg:(S'++[SO.lst (l.map MT.inD)])[S1.length]? =some (.lst (l.map MT.inD)):=by rw[show S1.length=S'.length by omega];exact bG _ _
  obtain⟨s,hs,es⟩:=HF (n:=(t+(i:Int)) % 6) (Int.emod_nonneg _ (by omega)) (Int.emod_lt_of_pos _ (by omega))
  refine kU (k:=S1.length) rfl ⟨_,hg⟩ <| qW <| ax <| cB (d:= .str s) (aJ (a:= .lst (zS.map .str)) (b:= .int ((t+(i:Int)) % 6)) rfl (aJ (a:= .int (t+(i:Int))) (b:= .int 6) (aJ (a:= .int t) (b:= .int i) rfl rfl rfl) rfl (vM (by omega))) es) <| ax <| FK <| cB (d:= .int 1) rfl <| draw (k:=k) (m:=3) rfl (vS.p.app (uO _)) rfl (by omega) (by omega) fun r2 S5 h5 h6 v5=>?_
  obtain⟨S6,rfl,v6⟩:=v5.split (by omega)
  obtain⟨w,rfl⟩:=Int.eq_ofNat_of_zero_le h5
  have l6:=v6.len
  refine⟨_,_,nI (1+w),rfl,rfl,?_,cf ⟨by simp;omega,MT.inD (s,1+w),l.map MT.inD,rfl,?_,by rw[List.length_map];omega,_,rfl,l++[(s,1+w)],S6,_,by simp [hl],?_,vS.trans v6,?_,rfl⟩⟩
  ·show R.ok (D.int (1+(w:Int)))=R.ok (D.int ((1+w:Nat):Int))
   congr 2
  ·rw[show S1.length=S6.length by omega];exact bG _ _
  ·intro x hx
   rcases List.mem_append.mp hx with q | q
   ·exact hlo x q
   ·rw[List.mem_singleton.mp q];exact⟨⟨by show 1≤1+w;omega,by show 1+w≤3;omega⟩,Ey s hs⟩
  ·rw[show S1.length=S6.length by omega,eg,List.map_append];rfl
 ·subst hδ hS4
  rw[NT.g_] at hl
  have lS:=vS.len
  refine fq <| w_var (v:= .loc S1.length) rfl ⟨_,rfl,rW vS (uO _) ?_ (eU ?_) (h l S' hlo (by omega) (by omega) vS)⟩
  ·show decide (S.length≤S1.length)=true
   exact decide_eq_true (by omega)
  ·rw[show S1.length=S'.length by omega];exact bG _ _
noncomputable def DV:List D:=[.str (Str.ofString "not"), .str (Str.ofString "and"), .str (Str.ofString "or"), .str (Str.ofString "xor"), .str (Str.ofString "vote"), .str (Str.ofString "and"), .str (Str.ofString "or"), .str (Str.ofString "xor")]
noncomputable def Je:List (Key × V):=[((Sum.inr (Str.ofString "not"):Key),V.int 1),((Sum.inr (Str.ofString "vote"):Key),V.int 3)]
theorem BW(r:Nat)(h:r < 8):∃kd,kd≤4∧c0 (.lst DV) (.int r)= .ok (.str (kS kd))∧(match kC (iW [] Je) (Sum.inr (kS kd)) with | some (.int i)=>R.ok (D.int i) | none=> .ok (.int 2) | _=> .no)= .ok (.int (ar kd)):=by
 match r,h with
 | 0,_=>exact⟨0,by omega,rfl,rfl⟩
 | 1,_=>exact⟨1,by omega,rfl,rfl⟩
 | 2,_=>exact⟨2,by omega,rfl,rfl⟩
 | 3,_=>exact⟨3,by omega,rfl,rfl⟩
 | 4,_=>exact⟨4,by omega,rfl,rfl⟩
 | 5,_=>exact⟨1,by omega,rfl,rfl⟩
 | 6,_=>exact⟨2,by omega,rfl,rfl⟩
 | 7,_=>exact⟨3,by omega,rfl,rfl⟩
noncomputable def Gj(kd:Nat)(ws:List Nat):D:= .tup [.str (kS kd), .tup (ws.map nI)]
theorem Dk{S:aH}{k n:Nat}(p:sU k S)(h0:0 < n)(hn:n < 10000){Q:V3→aH→Prop}(h:∀kd (ws:List Nat) S1,kd≤4→ws.length=ar kd→(∀w∈ws,w < n)→Ev k S S1→Q (.d (Gj kd ws)) S1) :
 W3 (gy [.loc k, .d (nI n)] S) Q:=by
 have hz:sizeLine=16777216:=sizeLine_eq
 have hk:=p.lt
 unfold gy
 refine qS (tT rfl ?_)
 simp only[bM,ic,List.map_cons,List.map_nil,List.length_cons,List.length_nil,List.replicate,List.cons_append,List.nil_append,Nat.reduceAdd,Nat.reduceSub]
 unfold lN
 refine aT <| bF (by simp only[List.length_cons,List.length_nil,List.length_set];omega) <| ET <| cB (d:= .lst DV) rfl <| draw (k:=k) rfl p rfl (by omega) (by omega) fun r S1 h1 h2 v1=>?_
 obtain⟨kd,hkd,e1,e2'⟩:=BW r.toNat (by omega)
 rw[Int.toNat_of_nonneg h1] at e1
 refine⟨_,_,_,rfl,rfl,e1,_,rfl,?_⟩
 simp only[List.set_cons_succ,List.set_cons_zero]
 refine aT <| bF (by simp only[List.length_cons,List.length_nil,List.length_set];omega) <| cB (d:= .int (ar kd)) e2' ⟨_,rfl,?_⟩
 simp only[List.set_cons_succ,List.set_cons_zero]
 have har:=Ax kd
 refine aT <| bF (by simp only[List.length_cons,List.length_nil,List.length_set];omega) <| l7 (fun j ds S2=>Ev k S S2∧∃ws:List Nat,ds=ws.map nI∧ws.length=j∧∀w∈ws,w < n) (lY (ds:=dS 0 (ar kd)) (kJ (n:=ar kd) rfl (by omega)) ⟨by rw[NT.g_];omega,⟨v1,[],rfl,rfl,by simp⟩,?_,?_⟩)
 ·rintro j v ds S2 hv ⟨v2,ws,rfl,hwl,hws⟩
  obtain⟨hj,rfl⟩:=NT.jX hv
  refine⟨[some (.d (.int j)),some (.loc k),some (.d (nI n))],rfl,yc ?_⟩
  rw[if_pos rfl]
  have hmn:∃mn:Int,0 < mn∧mn≤n∧pG [nI n, .int 4]= .ok (.int mn):=⟨if(4:Int) < n then 4 else n,by split <;> omega,by split <;> omega,rfl⟩
  obtain⟨mn,m1,m2,m3⟩:=hmn
  obtain⟨m,hm1,hm2,hm3⟩:∃m:Int,0 < m∧m≤n∧c0 (.lst [nI n, .int mn]) (.int ((j:Int) % 2))= .ok (.int m):=by
   have:(j:Int) % 2=0∨(j:Int) % 2=1:=by omega
   rcases this with q | q
   ·rw[q];exact⟨n,by omega,by omega,rfl⟩
   ·rw[q];exact⟨mn,by omega,by omega,rfl⟩
  refine FK <| cB (d:= .int ((n:Int) - 1)) rfl <| draw (k:=k) (m:=m) rfl v2.p (aJ (a:= .lst [nI n, .int mn]) (b:= .int ((j:Int) % 2)) (dW (mf (aR rfl (aR (aN (ds:=[nI n, .int 4]) rfl m3) rfl)) (by simp;omega))) (aJ (a:= .int j) (b:= .int 2) rfl rfl (vM (by omega))) hm3) hm1 (by omega) fun r2 S3 h3 h4 v3=>?_
  obtain⟨w,hw⟩:∃w:Nat,(n:Int) - 1 - r2=w:=⟨((n:Int) - 1 - r2).toNat,by omega⟩
  refine⟨_,_,nI w,rfl,rfl,?_,_,rfl,v2.trans v3,ws++[w],by simp,by simp [hwl],?_⟩
  ·show R.ok (D.int ((n:Int) - 1 - r2))=_
   rw[hw];rfl
  ·intro x hx
   rcases List.mem_append.mp hx with q | q
   ·exact hws x q
   ·rw[List.mem_singleton.mp q];omega
 ·rintro ds S2 ⟨v2,ws,rfl,hwl,hws⟩
  rw[NT.g_] at hwl
  refine⟨_,rfl,?_⟩
  simp only[List.set_cons_succ,List.set_cons_zero]
  have:=rW (X:=[]) (v:= .d (Gj kd ws)) (d:=Gj kd ws) (Q:=Q) v2 (fun o ho=>by cases ho) rfl (by unfold res;rfl) (h kd ws S2 hkd hwl hws v2)
  rw[List.append_nil] at this
  exact fq <| cB (d:=Gj kd ws) rfl ⟨_,rfl,this⟩
theorem my{S:aH}{k q w:Nat}{ks:List Int}(p:sU k S)(hq:q≠k)(e:S[q]? =some (.lst (ks.map .int)))(hw:w < ks.length)(hn:ks.length < 10000){Q:V3→aH→Prop}(h:∀x S1,x < ks.length→ks.getD x 0=ks.getD w 0→Ev k S S1→Q (.d (nI x)) S1) :
 W3 (dh [.loc k, .loc q, .d (nI w)] S) Q:=by
 have hz:sizeLine=16777216:=sizeLine_eq
 have hk:=p.lt
 unfold dh
 refine qS (tT rfl ?_)
 simp only[bM,ik,List.map_cons,List.map_nil,List.length_cons,List.length_nil,List.replicate,List.cons_append,List.nil_append,Nat.reduceAdd,Nat.reduceSub]
 unfold lg
 refine aT <| bF (by simp only[List.length_cons,List.length_nil,List.length_set];omega) <| Co (q:=q) e hw hn rfl (oT (xp (d:= .int ks.length) (nB e rfl) rfl ⟨ks.length,rfl,by omega,rfl,rfl⟩)) fun l hl0 hl1 hl2=>⟨_,rfl,?_⟩
 simp only[List.set_cons_succ,List.set_cons_zero]
 refine fq <| De (k:=k) (l:=l) (cB rfl ⟨rfl,rfl⟩) rfl p (aN (ds:=[.lst (l.map nI)]) rfl (by rw[n3,List.length_map])) hl0 hl1 fun x S3 hx v3=>⟨_,rfl,?_⟩
 have:=rW (X:=[]) (v:= .d (nI x)) (d:=nI x) (Q:=Q) v3 (fun o ho=>by cases ho) rfl (by unfold res;rfl) (h x S3 (hl2 x hx).1 (hl2 x hx).2 v3)
 rw[List.append_nil] at this
 exact this
end K26
end
section
set_option maxRecDepth 100000
set_option maxHeartbeats 4000000
namespace K26
open PySem PySem.Spec PyProof.Rows L2 L3 MT
theorem zD{f g:FB}{δ:DE}{S:aH}{QB:Bool→aH→Prop}(h:W3 (f δ S) fun b S1=>(b=false∧QB false S1)∨(b=true∧W3 (g δ S1) QB)):W3 (Dm f g δ S) QB:=W3.bind (h.mono fun b S1 h=>by
 rcases h with⟨e,q⟩ | ⟨e,q⟩
 ·subst e;rw [if_neg (by decide)];exact W3.ok q
 ·subst e;rw [if_pos rfl];exact q)
theorem g1{S:aH}{a b:SO}:(S++[a,b])[S.length]? =some a:=by rw[List.getElem?_append_right (Nat.le_refl _),Nat.sub_self];rfl
theorem g2{S:aH}{a b:SO}:(S++[a,b])[S.length+1]? =some b:=by rw[List.getElem?_append_right (by omega),show S.length+1 - S.length=1 by omega];rfl
theorem s1{S:aH}{a b c:SO}:(S++[a,b]).set S.length c=S++[c,b]:=by rw[List.set_append_right _ _ (Nat.le_refl _),Nat.sub_self];rfl
theorem s2{S:aH}{a b c:SO}:(S++[a,b]).set (S.length+1) c=S++[a,c]:=by rw[List.set_append_right _ _ (by omega),show S.length+1 - S.length=1 by omega];rfl
theorem t1{S:aH}{a b d:SO}:(S++[a,b,d])[S.length]? =some a:=by rw[List.getElem?_append_right (Nat.le_refl _),Nat.sub_self];rfl
theorem t2{S:aH}{a b d:SO}:(S++[a,b,d])[S.length+1]? =some b:=by rw[List.getElem?_append_right (by omega),show S.length+1 - S.length=1 by omega];rfl
theorem t3{S:aH}{a b d:SO}:(S++[a,b,d])[S.length+2]? =some d:=by rw[List.getElem?_append_right (by omega),show S.length+2 - S.length=2 by omega];rfl
theorem u3{S:aH}{a b d c:SO}:(S++[a,b,d]).set (S.length+2) c=S++[a,b,c]:=by rw[List.set_append_right _ _ (by omega),show S.length+2 - S.length=2 by omega];rfl
theorem oR{δ:DE}{S:aH}{i:Nat}{v:V3}{d:D}(h:δ[i]? =some (some v))(hr:res S v=some d):ah i (cD S δ)= .ok d:=by
 unfold ah cD
 rw[List.getElem?_map,h]
 show(match (some (match res S v with | some d=>Sl.val d | none=> .un)) with | some (.val d)=>R.ok d | _=> .no)=_
 rw[hr]
theorem EZ{g:Gt}:gp 2 (jS g):=by
 refine gp.tup fun x hx=>?_
 simp only[List.mem_cons,List.not_mem_nil,or_false] at hx
 rcases hx with rfl | rfl | rfl
 ·refine(gp.str ?_).mono (by omega)
  unfold kS
  split <;> decide+kernel
 ·exact gp.tup fun d hd=>by obtain⟨z,_,rfl⟩:=List.mem_map.mp hd;exact gp.int _
 ·exact(gp.bl _).mono (by omega)
theorem Ep(gs:List Gt):BO (.lst (gs.map jS)) (.lst [])= .ok gs.isEmpty:=by
 have f:gp 3 (.lst (gs.map jS)):=gp.lst fun d hd=>by obtain⟨g,_,rfl⟩:=List.mem_map.mp hd;exact EZ
 have f2:gp 1 (.lst []):=gp.lst fun d hd=>by cases hd
 rw[wK,f.pl,f.sh (by omega),f2.pl,f2.sh (by omega)]
 cases gs with
 | nil=>rfl
 | cons g gs=>rfl
noncomputable def ub(l:List (Str × Nat))(gs:List Gt):Prop:=∀(i:Nat) (g:Gt),gs[i]? =some g→ur (gA l+i) g
theorem ub.add{l:List (Str × Nat)}{gs:List Gt}{g:Gt}(h:ub l gs)(hg:ur (gA l+gs.length) g):ub l (gs++[g]):=fun j g' hj=>by
 by_cases hjl:j < gs.length
 ·rw[List.getElem?_append_left hjl] at hj;exact h j g' hj
 ·rw[List.getElem?_append_right (by omega)] at hj
  have h0:j - gs.length=0:=by
   have:=(List.getElem?_eq_some_iff.mp hj).1
   simp at this;omega
  rw[h0] at hj
  cases hj
  rw[show j=gs.length by omega]
  exact hg
noncomputable def sE(k a:Nat)(mo ga:D)(ins:D)(fi:Nat)(a6 a7 a8 a11 a12 a13 a14:Option V3):DE:=[some (.loc k),some (.d mo),some (.d ga),some (.d (.int 3)),some (.d ins),some (.loc a),a6,a7,a8,some (.loc (a+1)),some (.d (nI fi)),a11,a12,a13,a14,none,none]
theorem yZ{k i:Nat}{mo ga:D}{S S1:aH}{l:List (Str × Nat)}{gs:List Gt}{ks:List Int}{a7 a8 a11 a12 a13 a14:Option V3}(hk:k < S.length)(hl1:1≤gA l)(hll:l.length < 100)(hi:i < 100)(hgl:gs.length=i)(hgs:ub l gs)(hK:KI l gs ks)(hwl:gA l < 1000)(v:Ev k S S1) :
 W3 (fV (sE k S.length mo ga (.lst (l.map MT.inD)) (gA l) (some (.d (.int i))) a7 a8 a11 a12 a13 a14) (S1++[.lst (ks.map .int), .lst (gs.map jS)])) fun o S2=>∃δ2,o= .nx δ2∧∃(g:Gt) (x:Int) (S3:aH) (b7 b8 b11 b12 b13 b14:Option V3),δ2=sE k S.length mo ga (.lst (l.map MT.inD)) (gA l) (some (.d (.int i))) b7 b8 b11 b12 b13 b14∧Ev k S S3∧S2=S3++[.lst ((ks++[x]).map .int), .lst ((gs++[g]).map jS)]∧ub l (gs++[g])∧KI l (gs++[g]) (ks++[x]):=by
 have hz:sizeLine=16777216:=sizeLine_eq
 have hkl:=hK.len
 have lv:=v.len
 have ha:∀{T:aH} {x y:SO},T.length=S.length→(T++[x,y])[S.length]? =some x:=fun h=>by rw[←h];exact g1
 have hb:∀{T:aH} {x y:SO},T.length=S.length→(T++[x,y])[S.length+1]? =some y:=fun h=>by rw[←h];exact g2
 have sa:∀{T:aH} {x y z:SO},T.length=S.length→(T++[x,y]).set S.length z=T++[z,y]:=fun h=>by rw[←h];exact s1
 have sb:∀{T:aH} {x y z:SO},T.length=S.length→(T++[x,y]).set (S.length+1) z=T++[x,z]:=fun h=>by rw[←h];exact s2
 unfold fV sE
 refine aT <| DU <| cV <| ax <| w_var (v:= .loc k) rfl <| ax <| xp (d:=nI ks.length) (nB (ha lv) rfl) rfl <| cf <| Dk (v.p.app (j8 _ _)) (by omega) (by omega) fun kd ws S2 hkd hwl' hws v2=>?_
 obtain⟨S3,rfl,v3⟩:=v2.split (by omega)
 have l3:=v3.len
 refine⟨_,rfl,_,rfl,?_⟩
 show W3 (bu _ _ [some (.loc k),some (.d mo),some (.d ga),some (.d (.int 3)),some (.d (.lst (l.map MT.inD))),some (.loc S.length),some (.d (.int i)),a7,a8,some (.loc (S.length+1)),some (.d (nI (gA l))),some (.d (.str (kS kd))),some (.d (.tup (ws.map nI))),a13,a14,none,none] _) _
 refine aT <| bF (by simp only[List.length_cons,List.length_nil,List.length_set];omega) <| cB (d:= .int ((l.length:Int)+gs.length)) ?_ ⟨_,rfl,?_⟩
 ·rw[hgl]
  exact aJ (a:= .int l.length) (b:= .int i) (aN (ds:=[.lst (l.map MT.inD)]) rfl (by rw[n3,List.length_map])) rfl rfl
 simp only[List.set_cons_succ,List.set_cons_zero]
 refine aT (W3.mono (Q:=fun o S4=>∃(kd:Nat) (ws:List Nat) (x:Int) (S5:aH) (b14:Option V3),o= .nx [some (.loc k),some (.d mo),some (.d ga),some (.d (.int 3)),some (.d (.lst (l.map MT.inD))),some (.loc S.length),some (.d (.int i)),a7,a8,some (.loc (S.length+1)),some (.d (nI (gA l))),some (.d (.str (kS kd))),some (.d (.tup (ws.map nI))),some (.d (.int x)),b14,none,none]∧S4=S5++[.lst (ks.map .int), .lst (gs.map jS)]∧Ev k S S5∧kd≤4∧ws.length=ar kd∧(∀w∈ws,w < ks.length)∧(x=(l.length:Int)+gs.length∨∃pl g0,gs[pl]? =some g0∧x=ks.getD (gA l+pl) 0∧kd=g0.1∧ws.map (ks.getD · 0)=g0.2.1.map (ks.getD · 0))) ?_ ?_)
 ·refine mF <| zD <| CK (b:=!gs.isEmpty) ?_ ?_
  ·refine eJ (a:= .lst (gs.map jS)) (b:= .lst []) (oR rfl (eU (hb (l3.trans lv)))) rfl ?_
   unfold sC
   rw[Ep];rfl
  cases hge:gs.isEmpty with
  | true=>
    exact .inl ⟨rfl,by rw[if_neg (by decide)];exact fT ⟨kd,ws,_,S3,_,rfl,rfl,v.trans v3,hkd,hwl',hws, .inl rfl⟩⟩
  | false=>
    have hne:0 < gs.length:=by cases gs with | nil=>cases hge | cons a r=>simp
    refine .inr ⟨rfl,GV <| draw (k:=k) rfl ((v.trans v3).p.app (j8 _ _)) rfl (by omega) (by omega) fun r S4 h1 h2 v4=>cB (d:= .int 0) rfl ⟨_,_,decide (r=0),rfl,rfl,rfl,?_⟩⟩
    obtain⟨S5,rfl,v5⟩:=v4.split (by omega)
    have l5:=v5.len
    cases decide (r=0) with
    | false=>
      rw[if_neg (by decide)]
      exact fT ⟨kd,ws,_,S5,_,rfl,rfl,(v.trans v3).trans v5,hkd,hwl',hws, .inl rfl⟩
    | true=>
      rw[if_pos rfl]
      have v5':=(v.trans v3).trans v5
      refine aT <| bF (by simp only[List.length_cons,List.length_nil,List.length_set];omega) <| xg (k:=k) (m:=(gs.length:Int)) rfl (v5'.p.app (j8 _ _)) (aN (ds:=[.lst (gs.map jS)]) (aR (oR rfl (eU (hb v5'.len))) rfl) (by rw[n3,List.length_map])) (by omega) (by omega) fun r2 S6 h3 h4 v6=>⟨_,rfl,?_⟩
      obtain⟨S7,rfl,v7⟩:=v6.split (by omega)
      obtain⟨pl,rfl⟩:=Int.eq_ofNat_of_zero_le h3
      simp only[List.set_cons_succ,List.set_cons_zero]
      have v7':=v5'.trans v7
      have hpl:pl < gs.length:=by omega
      have q0:gs[pl]? =some gs[pl]:=List.getElem?_eq_getElem hpl
      have hg0:=hgs pl _ q0
      have har:=Ax gs[pl].1
      refine aT <| DU <| xp (d:=Gj gs[pl].1 gs[pl].2.1) ?_ ?_ ⟨_,rfl,_,rfl,?_⟩
      ·refine(show CN (e2 c0 (ah 9) (ah 14)) iz (gq (eC (.int 2))) _=Jh (jS gs[pl]) none (some 2) from ?_).trans rfl
       unfold CN
       rw[aJ (a:= .lst (gs.map jS)) (b:= .int pl) (oR rfl (eU (hb v7'.len))) rfl (NT.mC (by rw[List.getElem?_map,q0];rfl))]
       rfl
      ·unfold Gj md k8
       rw[show md (.str _)=true from by unfold md;rfl]
       unfold k8
       rw[uS]
       unfold k8
       rfl
      show W3 (bu _ _ [some (.loc k),some (.d mo),some (.d ga),some (.d (.int 3)),some (.d (.lst (l.map MT.inD))),some (.loc S.length),some (.d (.int i)),a7,a8,some (.loc (S.length+1)),some (.d (nI (gA l))),some (.d (.str (kS gs[pl].1))),some (.d (.tup (gs[pl].2.1.map nI))),some (.d (.int ((l.length:Int)+gs.length))),some (.d (.int pl)),none,none] _) _
      refine aT <| bF (by simp only[List.length_cons,List.length_nil,List.length_set];omega) <| oA <| ax <| l7 (fun j ds S8=>∃S9,S8=S9++[.lst (ks.map .int), .lst (gs.map jS)]∧Ev k S S9∧∃us:List Nat,ds=us.map nI∧us.length=j∧(∀w∈us,w < ks.length)∧us.map (ks.getD · 0)=(gs[pl].2.1.take j).map (ks.getD · 0)) (lY (ds:=gs[pl].2.1.map nI) (k_ rfl) ⟨by rw[List.length_map,List.length_map,hg0.2.1];omega,⟨S7,rfl,v7',[],rfl,rfl,by simp,by simp⟩,?_,?_⟩)
      ·rintro j u ds S8 hu ⟨S9,rfl,v9,us,rfl,hul,hus,huk⟩
       obtain⟨w,hw,rfl⟩:=NT.j1 hu
       have hwn:w < ks.length:=by have:=hg0.2.2 w (List.mem_of_getElem? hw);omega
       refine⟨[some (.d (nI w)),some (.loc k),some (.loc S.length)],rfl,yc ?_⟩
       rw[if_pos rfl]
       refine cV <| ax <| w_var (v:= .loc k) rfl <| ax <| w_var (v:= .loc S.length) rfl <| ax <| cB (d:=nI w) rfl <| cf <| my (v9.p.app (j8 _ _)) (by omega) (ha v9.len) hwn (by omega) fun x S10 hx hxk v10=>?_
       obtain⟨S11,rfl,v11⟩:=v10.split (by have:=v9.len;omega)
       refine⟨_,rfl,S11,rfl,v9.trans v11,us++[x],by simp,by simp [hul],?_,?_⟩
       ·intro y hy
        rcases List.mem_append.mp hy with q | q
        ·exact hus y q
        ·rw[List.mem_singleton.mp q];exact hx
       ·rw[List.take_add_one,hw,List.map_append,List.map_append,huk]
        show _++[ks.getD x 0]=_++[ks.getD w 0]
        rw[hxk]
      ·rintro ds S8 ⟨S9,rfl,v9,us,rfl,hul,hus,huk⟩
       rw[List.length_map,List.length_map] at hul huk
       rw[List.take_length] at huk
       refine cf ⟨[.lst (us.map nI)], .tup (us.map nI),rfl,rfl,_,rfl,?_⟩
       simp only[List.set_cons_succ,List.set_cons_zero]
       have hkp:gA l+pl < ks.length:=by omega
       refine bF (by simp only[List.length_cons,List.length_nil,List.length_set];omega) <| xp (d:= .int (ks.getD (gA l+pl) 0)) ?_ rfl ⟨gs[pl].1,us,ks.getD (gA l+pl) 0,S9,_,rfl,rfl,v9,hg0.1,by rw[hul];exact hg0.2.1,hus, .inr ⟨pl,gs[pl],q0,rfl,rfl,huk⟩⟩
       refine aJ (a:= .lst (ks.map .int)) (b:= .int ((gA l+pl:Nat):Int)) (oR rfl (eU (ha v9.len))) (aJ (a:=nI (gA l)) (b:= .int pl) rfl rfl rfl) (NT.mC ?_)
       rw[List.getElem?_map,List.getElem?_eq_getElem hkp,List.getD_eq_getElem?_getD,List.getElem?_eq_getElem hkp];rfl
 ·rintro o S4 ⟨kd,ws,x,S5,b14,rfl,rfl,v5,hkd,hwl',hws,hx⟩
  refine⟨_,rfl,?_⟩
  have l5:=v5.len
  refine aT <| kU (k:=S.length+1) rfl ⟨_,hb l5⟩ <| qW <| ax <| cB (d:= .str (kS kd)) rfl <| ax <| cB (d:= .tup (ws.map nI)) rfl <| ax <| FK <| draw (k:=k) rfl (v5.p.app (j8 _ _)) rfl (by omega) (by omega) fun r S6 h1 h2 v6=>cB (d:= .int 0) rfl ⟨_,_, .bl (decide (r=0)),rfl,rfl,rfl,cf ⟨by simp;omega,?_⟩⟩
  obtain⟨S7,rfl,v7⟩:=v6.split (by omega)
  have v7':=v5.trans v7
  refine⟨jS (kd,ws,decide (r=0)),_,rfl,hb v7'.len,by rw[List.length_map];omega,_,rfl,?_⟩
  rw[sb v7'.len]
  have hg:ur ks.length (kd,ws,decide (r=0)):=⟨hkd,hwl',hws⟩
  refine kU (k:=S.length) rfl ⟨_,ha v7'.len⟩ <| cB (d:= .int x) rfl ⟨_,_,rfl,ha v7'.len,by rw[List.length_map];omega,_,rfl,(kd,ws,decide (r=0)),x,S7,_,_,_,_,_,_,rfl,v7',?_,hgs.add (by rw[←hkl];exact hg),hK.add hgs hg ?_⟩
  ·rw[sa v7'.len,List.map_append,List.map_append];rfl
  ·rcases hx with q | ⟨pl,g0,q1,q2,q3,q4⟩
   ·exact .inl q
   ·exact .inr ⟨pl,g0,q1,q2,q3,q4⟩
end K26
end
section
set_option maxRecDepth 100000
set_option maxHeartbeats 4000000
namespace K26
open PySem PySem.Spec PyProof.Rows L2 L3 MT
noncomputable def Fo:List Str:=[Str.ofString "p",Str.ofString "ou",Str.ofString "result"]
theorem E4:∀s∈Fo,gp 0 (.str s):=fun s hs=>by
 simp only[Fo,List.mem_cons,List.not_mem_nil,or_false] at hs
 rcases hs with rfl | rfl | rfl <;> exact gp.str (by decide+kernel)
theorem Fw:Fo.length=3:=rfl
noncomputable def OW(ks:List Int)(ws:List Nat):Prop:=(1≤ws.length∧ws.length≤3)∧(∀w∈ws,w < ks.length)∧∀a b,ws=[a,b]→ks.getD a 0=ks.getD b 0
noncomputable def tE(k a:Nat)(mo ga:D)(ins:D)(fi:Nat)(a6 a7 a8 a11 a12 a13 a14 a16:Option V3):DE:=[some (.loc k),some (.d mo),some (.d ga),some (.d (.int 3)),some (.d ins),some (.loc a),a6,a7,a8,some (.loc (a+1)),some (.d (nI fi)),a11,a12,a13,a14,some (.loc (a+2)),a16]
section
variable {k i fi:Nat} {mo ga ins:D} {S S1:aH} {ks:List Int} {A B:List D} {a7 a8 a11 a12 a13 a14 a16:Option V3}
theorem p7{F:FX}{j r:Int}{w:Nat}{ws:List Nat}(hw:OW ks ws)(v:Ev k S S1)
 (hF:∀a12,W3 (F (tE k S.length mo ga ins fi (some (.d (.int i))) a7 (some (.d (.int r))) a11 a12 a13 a14 (some (.d (nI w)))) (S1++[.lst (ks.map .int), .lst A, .lst B])) fun u S2=>∃ws' S',u= .d (.tup (ws'.map nI))∧OW ks ws'∧S2=S'++[.lst (ks.map .int), .lst A, .lst B]∧Ev k S S') :
 W3 (sV (bP (b2 jl (ah 8) (eC (.int j)))) (cy 12 F) ku (tE k S.length mo ga ins fi (some (.d (.int i))) a7 (some (.d (.int r))) a11 (some (.d (.tup (ws.map nI)))) a13 a14 (some (.d (nI w)))) (S1++[.lst (ks.map .int), .lst A, .lst B])) fun o S2=>∃ws' S',o= .nx (tE k S.length mo ga ins fi (some (.d (.int i))) a7 (some (.d (.int r))) a11 (some (.d (.tup (ws'.map nI)))) a13 a14 (some (.d (nI w))))∧OW ks ws'∧S2=S'++[.lst (ks.map .int), .lst A, .lst B]∧Ev k S S':=by
 refine mF <| rH (b:=decide (r=j)) rfl ?_
 cases decide (r=j) with
 | true=>
   rw[if_pos rfl]
   refine bF (by unfold tE;simp only[List.length_cons,List.length_nil];omega) ((hF _).mono fun u S2 ⟨ws',S',e,h1,h2,h3⟩=>⟨ws',S',?_,h1,h2,h3⟩)
   subst e;rfl
 | false=>
   rw[if_neg (by decide)]
   exact fT ⟨ws,S1,rfl,hw,rfl,v⟩
theorem FI{w:Nat}(h:w < ks.length):OW ks [w]:=⟨⟨by simp,by simp⟩,fun x hx=>by rw[List.mem_singleton.mp hx];exact h,fun a b e=>by simp at e⟩
theorem tG{a b c:Nat}(h1:a < ks.length)(h2:b < ks.length)(h3:c < ks.length):OW ks [a,b,c]:=⟨⟨by simp,by simp⟩,fun x hx=>by
 simp only[List.mem_cons,List.not_mem_nil,or_false] at hx
 rcases hx with rfl | rfl | rfl <;> assumption,fun a b e=>by simp at e⟩
theorem Ex{a b:Nat}(h1:a < ks.length)(h2:b < ks.length)(h3:ks.getD a 0=ks.getD b 0):OW ks [a,b]:=⟨⟨by simp,by simp⟩,fun x hx=>by
 simp only[List.mem_cons,List.not_mem_nil,or_false] at hx
 rcases hx with rfl | rfl <;> assumption,fun x y e=>by cases e;exact h3⟩
theorem zR{os:List (Str × List Nat)}(hk:k < S.length)(h0:0 < ks.length)(hn:ks.length < 10000)(hi:i < 3)(hol:os.length < 100)(v:Ev k S S1) :
 W3 (fX (tE k S.length mo ga ins fi (some (.d (.int i))) a7 a8 a11 a12 a13 a14 a16) (S1++[.lst (ks.map .int), .lst A, .lst (os.map xG)])) fun o S2=>∃δ2,o= .nx δ2∧∃(x:Str × List Nat) (S3:aH) (b8 b12 b16:Option V3),δ2=tE k S.length mo ga ins fi (some (.d (.int i))) a7 b8 a11 b12 a13 a14 b16∧Ev k S S3∧S2=S3++[.lst (ks.map .int), .lst A, .lst ((os++[x]).map xG)]∧OW ks x.2∧gp 0 (.str x.1):=by
 have hz:sizeLine=16777216:=sizeLine_eq
 have ha:∀{T:aH} {x y z:SO},T.length=S.length→(T++[x,y,z])[S.length]? =some x:=fun h=>by rw[←h];exact t1
 have hc:∀{T:aH} {x y z:SO},T.length=S.length→(T++[x,y,z])[S.length+2]? =some z:=fun h=>by rw[←h];exact t3
 have sc:∀{T:aH} {x y z u:SO},T.length=S.length→(T++[x,y,z]).set (S.length+2) u=T++[x,y,u]:=fun h=>by rw[←h];exact u3
 have lv:=v.len
 unfold fX tE
 have hmn:∃mn:Int,0 < mn∧mn≤ks.length∧pG [.int ks.length, .int 5]= .ok (.int mn):=⟨if(5:Int) < ks.length then 5 else ks.length,by split <;> omega,by split <;> omega,rfl⟩
 obtain⟨mn,m1,m2,m3⟩:=hmn
 refine aT <| bF (by simp only[List.length_cons,List.length_nil,List.length_set];omega) <| FK <| xp (d:= .int ((ks.length:Int) - 1)) (aJ (a:= .int ks.length) (b:= .int 1) (nB (ha lv) rfl) rfl rfl) rfl <| xg (k:=k) (m:=mn) rfl (v.p.app (mz _ _ _)) (aN (ds:=[.int ks.length, .int 5]) (aR (nB (ha lv) rfl) rfl) m3) m1 (by omega) fun r S2 h1 h2 v2=>?_
 obtain⟨S3,rfl,v3⟩:=v2.split (by omega)
 obtain⟨w,hw⟩:∃w:Nat,(ks.length:Int) - 1 - r=w:=⟨((ks.length:Int) - 1 - r).toNat,by omega⟩
 have hwl:w < ks.length:=by omega
 refine⟨_,_,nI w,rfl,rfl,?_,_,rfl,?_⟩
 ·show R.ok (D.int ((ks.length:Int) - 1 - r))=_
  rw[hw];rfl
 simp only[List.set_cons_succ,List.set_cons_zero]
 refine aT <| bF (by simp only[List.length_cons,List.length_nil,List.length_set];omega) <| cB (d:= .tup ([w].map nI)) (fB rfl (by simp;omega)) ⟨_,rfl,?_⟩
 simp only[List.set_cons_succ,List.set_cons_zero]
 have v3':=v.trans v3
 refine aT <| bF (by simp only[List.length_cons,List.length_nil,List.length_set];omega) <| draw (k:=k) rfl (v3'.p.app (mz _ _ _)) rfl (by omega) (by omega) fun r2 S4 h3 h4 v4=>⟨_,rfl,?_⟩
 obtain⟨S5,rfl,v5⟩:=v4.split (by have:=v3'.len;omega)
 simp only[List.set_cons_succ,List.set_cons_zero]
 have v5':=v3'.trans v5
 refine aT ((p7 (k:=k) (S:=S) (mo:=mo) (ga:=ga) (ins:=ins) (fi:=fi) (i:=i) (j:=1) (r:=r2) (w:=w) (ws:=[w]) (A:=A) (B:=os.map xG) (FI hwl) v5' ?_).mono fun o S6 ⟨w6,S7,e6,hw6,eS6,v6⟩=>⟨_,e6,?_⟩)
 ·intro a12
  unfold tE
  refine qW <| ax <| cB (d:=nI w) rfl <| ax <| cV <| ax <| w_var (v:= .loc k) rfl <| ax <| w_var (v:= .loc S.length) rfl <| ax <| cB (d:=nI w) rfl <| cf <| my (v5'.p.app (mz _ _ _)) (by omega) (ha v5'.len) hwl hn fun x S10 hx hxk v10=>?_
  obtain⟨S11,rfl,v11⟩:=v10.split (by have:=v5'.len;omega)
  exact cf ⟨by simp;omega,[w,x],S11,rfl,Ex hwl hx hxk.symm,rfl,v5'.trans v11⟩
 subst eS6
 refine aT ((p7 (k:=k) (S:=S) (mo:=mo) (ga:=ga) (ins:=ins) (fi:=fi) (i:=i) (j:=2) (r:=r2) (w:=w) (ws:=w6) (A:=A) (B:=os.map xG) hw6 v6 ?_).mono fun o S8 ⟨w8,S9,e8,hw8,eS8,v8⟩=>⟨_,e8,?_⟩)
 ·intro a12
  unfold tE
  refine qW <| ax <| cB (d:=nI w) rfl <| ax <| cV <| ax <| w_var (v:= .loc k) rfl <| ax <| w_var (v:= .loc S.length) rfl <| ax <| cB (d:=nI w) rfl <| cf <| my (v6.p.app (mz _ _ _)) (by omega) (ha v6.len) hwl hn fun x S10 hx hxk v10=>?_
  obtain⟨S11,rfl,v11⟩:=v10.split (by have:=v6.len;omega)
  have v11':=v6.trans v11
  refine ax <| xg (k:=k) (m:=(ks.length:Int)) rfl (v11'.p.app (mz _ _ _)) (nB (ha v11'.len) rfl) (by omega) (by omega) fun r3 S12 h5 h6 v12=>?_
  obtain⟨S13,rfl,v13⟩:=v12.split (by have:=v11'.len;omega)
  obtain⟨y,rfl⟩:=Int.eq_ofNat_of_zero_le h5
  exact cf ⟨by simp;omega,[w,x,y],S13,rfl,tG hwl hx (by omega),rfl,v11'.trans v13⟩
 subst eS8
 refine aT ((p7 (k:=k) (S:=S) (mo:=mo) (ga:=ga) (ins:=ins) (fi:=fi) (i:=i) (j:=3) (r:=r2) (w:=w) (ws:=w8) (A:=A) (B:=os.map xG) hw8 v8 ?_).mono fun o S14 ⟨wt,S15,e14,hwt,eS14,v15⟩=>⟨_,e14,?_⟩)
 ·intro a12
  unfold tE
  refine qW <| ax <| cB (d:=nI w) rfl <| ax <| cV <| ax <| w_var (v:= .loc k) rfl <| ax <| w_var (v:= .loc S.length) rfl <| ax <| cB (d:=nI w) rfl <| cf <| my (v8.p.app (mz _ _ _)) (by omega) (ha v8.len) hwl hn fun x S10 hx hxk v10=>?_
  obtain⟨S11,rfl,v11⟩:=v10.split (by have:=v8.len;omega)
  have v11':=v8.trans v11
  refine ax <| cV <| ax <| w_var (v:= .loc k) rfl <| ax <| w_var (v:= .loc S.length) rfl <| ax <| cB (d:=nI w) rfl <| cf <| my (v11'.p.app (mz _ _ _)) (by omega) (ha v11'.len) hwl hn fun y S12 hy hyk v12=>?_
  obtain⟨S13,rfl,v13⟩:=v12.split (by have:=v11'.len;omega)
  exact cf ⟨by simp;omega,[w,x,y],S13,rfl,tG hwl hx hy,rfl,v11'.trans v13⟩
 subst eS14
 have hio:i < Fo.length:=by rw[Fw];exact hi
 unfold tE
 refine kU (k:=S.length+2) rfl ⟨_,hc v15.len⟩ <| cB (d:=xG (Fo[i],wt)) ?_ ⟨_,_,rfl,hc v15.len,by rw[List.length_map];omega,_,rfl,(Fo[i],wt),S15,_,_,_,rfl,v15,?_,hwt,E4 _ (List.getElem_mem _)⟩
 ·exact fB (aR (aJ (a:= .lst (Fo.map .str)) (b:= .int i) rfl rfl (NT.mC (by rw[List.getElem?_map,List.getElem?_eq_getElem hio];rfl))) rfl) (by simp;omega)
 ·rw[sc v15.len,List.map_append];rfl
end
structure DN (l:List (Str × Nat)) (gs:List Gt) (os:List (Str × List Nat)):Prop where
 li:∀x∈l,En x
 gg:ub l gs
 o1:1≤os.length
 oL:os.length≤3
 oo:∀x∈os,((1≤x.2.length∧x.2.length≤3)∧(∀w∈x.2,w < gA l+gs.length)∧∀a b,x.2=[a,b]→∀ms,ms.length=l.length→∀p,pv l gs ms p a=pv l gs ms p b)∧gp 0 (.str x.1)
theorem uU{S:aH}{k:Nat}{mo ga:Int}(p:sU k S)(hmo:1≤mo∧mo≤6)(hga:0≤ga∧ga≤60){Q:V3→aH→Prop}
 (h:∀(l:List (Str × Nat)) (gs:List Gt) (os:List (Str × List Nat)) S1,1≤l.length→(l.length:Int)≤mo→(gs.length:Int)≤ga→DN l gs os→Ev k S S1→Q (.d (bH l gs os)) S1) :
 W3 (eS [.loc k, .d (.int mo), .d (.int ga), .d (.int 3)] S) Q:=by
 have hz:sizeLine=16777216:=sizeLine_eq
 have hk:=p.lt
 unfold eS
 refine qS (tT rfl ?_)
 simp only[bM,ei,List.map_cons,List.map_nil,List.length_cons,List.length_nil,List.replicate,List.cons_append,List.nil_append,Nat.reduceAdd,Nat.reduceSub]
 unfold g8
 refine aT <| bF (by simp only[List.length_cons,List.length_nil,List.length_set];omega) <| cV <| ax <| w_var (v:= .loc k) rfl <| ax <| cB (d:= .int mo) rfl <| ax <| cB (d:= .int 3) rfl <| cf <| s_ p hmo fun l S1 hli hl1 hl6 v1=>⟨_,rfl,?_⟩
 simp only[List.set_cons_succ,List.set_cons_zero]
 have l1:=v1.len
 have hbd:=NT.A9 (l:=l) fun x hx=>(hli x hx).1
 have hwid:1≤gA l∧gA l≤18:=by unfold gA;omega
 refine aT <| bF (by simp only[List.length_cons,List.length_nil,List.length_set];omega) <| i7 (ds:=[]) rfl ⟨_,rfl,?_⟩
 simp only[List.set_cons_succ,List.set_cons_zero]
 rw[l1]
 refine aT <| fS <| lY (ds:=cX (l.map MT.inD)) (zW rfl) ?_
 refine(cu (fun i δ S2=>∃(ks:List Int) (a6 a7 a8:Option V3),CG (l.take i) ks∧S2=S1++[SO.lst (ks.map .int)]∧δ=[some (.loc k),some (.d (.int mo)),some (.d (.int ga)),some (.d (.int 3)),some (.d (.lst (l.map MT.inD))),some (.loc S.length),a6,a7,a8,none,none,none,none,none,none,none,none])
  ⟨[],none,none,none,CG.nil,rfl,rfl⟩ ?_).mono fun o S2 ⟨δ2,e2',ks,a6,a7,a8,hKn,hS2,hδ⟩=>⟨δ2,e2',?_⟩
 ·rintro i v δ S2 hv ⟨ks,a6,a7,a8,hKn,rfl,rfl⟩
  obtain⟨d,hd,rfl⟩:=oq hv
  obtain⟨x,hx,rfl⟩:=NT.ot hd
  have hil:=(List.getElem?_eq_some_iff.mp hx).1
  have hkl:=hKn.len
  have hwt:gA (l.take i)≤100*(l.take i).length:=vC fun y hy=>by have:=(hli y (List.mem_of_mem_take hy)).1;omega
  rw[List.length_take] at hwt
  have hxw:=(hli x (List.mem_of_getElem? hx)).1
  have hg:(S1++[SO.lst (ks.map .int)])[S.length]? =some (.lst (ks.map .int)):=by rw[←l1];exact bG _ _
  refine⟨[some (.loc k),some (.d (.int mo)),some (.d (.int ga)),some (.d (.int 3)),some (.d (.lst (l.map MT.inD))),some (.loc S.length),some (.d (.int i)),some (.d (.str x.1)),some (.d (nI x.2)),none,none,none,none,none,none,none,none],rfl,?_⟩
  unfold jd
  refine HB (k:=S.length) rfl ⟨_,hg⟩ <| cB (d:= .lst ((List.replicate x.2 (i:Int)).map .int)) ?_ ⟨_,_,rfl,hg,by rw[List.length_map,List.length_map,List.length_replicate];omega,_,rfl,ks++List.replicate x.2 (i:Int),_,_,_,?_,?_,rfl⟩
  ·refine dW ?_
   rw[EX (n:=x.2) (ds:=[.int i]) (mf rfl (by simp;omega)) rfl (by omega) (by simp;omega),A7]
  ·have:=hKn.add x.1 x.2
   rw[List.length_take,Nat.min_eq_left (by omega)] at this
   rw[List.take_add_one,hx]
   exact this
  ·rw[←l1,eg,List.map_append]
 subst hδ hS2
 have hel:((cX (l.map MT.inD)).map V3.d).length=l.length:=by unfold cX;simp
 rw[hel,List.take_length] at hKn
 have hkn:=hKn.len
 refine aT <| bF (by simp only[List.length_cons,List.length_nil,List.length_set];omega) <| i7 (ds:=[]) rfl ⟨_,rfl,?_⟩
 simp only[List.set_cons_succ,List.set_cons_zero]
 rw[show(S1++[SO.lst (ks.map .int)]).length=S.length+1 by simp [l1],List.append_assoc]
 show W3 (bu _ _ _ (S1++[SO.lst (ks.map .int),SO.lst (([]:List Gt).map jS)])) _
 have ha2:∀{T:aH} {x y:SO},T.length=S.length→(T++[x,y])[S.length]? =some x:=fun h=>by rw[←h];exact g1
 refine aT <| bF (by simp only[List.length_cons,List.length_nil,List.length_set];omega) <| xp (d:=nI (gA l)) ((nB (ks:=ks) (ha2 l1) rfl).trans (by rw[hkn];rfl)) rfl ⟨_,rfl,?_⟩
 simp only[List.set_cons_succ,List.set_cons_zero]
 refine aT <| fS <| oT <| draw (k:=k) (m:=ga+1) rfl (v1.p.app (j8 _ _)) rfl (by omega) (by omega) fun r S3 h3 h4 v3=>?_
 obtain⟨S4,rfl,v4⟩:=v3.split (by omega)
 obtain⟨n,rfl⟩:=Int.eq_ofNat_of_zero_le h3
 refine⟨n,rfl,by omega,?_⟩
 have gs0:ub l []:=fun i g e=>by simp at e
 refine(cu (fun i δ S5=>∃(gs:List Gt) (ks:List Int) (S6:aH) (a6 a7 a8 a11 a12 a13 a14:Option V3),gs.length=i∧ub l gs∧KI l gs ks∧Ev k S S6∧S5=S6++[SO.lst (ks.map .int),SO.lst (gs.map jS)]∧δ=sE k S.length (.int mo) (.int ga) (.lst (l.map MT.inD)) (gA l) a6 a7 a8 a11 a12 a13 a14)
  ⟨[],ks,S4,_,_,_,_,_,_,_,rfl,gs0,hKn.ki,v1.trans v4,rfl,rfl⟩ ?_).mono fun o S5 ⟨δ5,e5,gs,ks5,S6,b6,b7,b8,b11,b12,b13,b14,hgl,hgs,hK,v6,hS5,hδ⟩=>⟨δ5,e5,?_⟩
 ·rintro i v δ S5 hv ⟨gs,ks5,S6,b6,b7,b8,b11,b12,b13,b14,hgl,hgs,hK,v6,rfl,rfl⟩
  obtain⟨hi,rfl⟩:=NT.jX hv
  refine⟨sE k S.length (.int mo) (.int ga) (.lst (l.map MT.inD)) (gA l) (some (.d (.int i))) b7 b8 b11 b12 b13 b14,rfl,?_⟩
  refine(yZ hk hwid.1 (by omega) (by omega) hgl hgs hK (by omega) v6).mono fun o S7 ⟨δ7,e7,g,x,S8,c7,c8,c11,c12,c13,c14,hδ7,v8,eS7,hg8,hK8⟩=>⟨δ7,e7,gs++[g],ks5++[x],S8,_,_,_,_,_,_,_,by simp [hgl],hg8,hK8,v8,eS7,hδ7⟩
 subst hδ hS5
 rw[NT.g_] at hgl
 have hk5:=hK.len
 unfold sE
 refine aT <| bF (by simp only[List.length_cons,List.length_nil,List.length_set];omega) <| i7 (ds:=[]) rfl ⟨_,rfl,?_⟩
 simp only[List.set_cons_succ,List.set_cons_zero]
 have l6:=v6.len
 rw[show(S6++[SO.lst (ks5.map .int),SO.lst (gs.map jS)]).length=S.length+2 by simp [l6],List.append_assoc]
 show W3 (bu _ _ (tE k S.length (.int mo) (.int ga) (.lst (l.map MT.inD)) (gA l) b6 b7 b8 b11 b12 b13 b14 none) (S6++[SO.lst (ks5.map .int),SO.lst (gs.map jS),SO.lst (([]:List (Str × List Nat)).map xG)])) _
 refine aT <| fS <| oT <| FK <| cB (d:= .int 1) rfl <| draw (k:=k) (m:=3) rfl (v6.p.app (mz _ _ _)) rfl (by omega) (by omega) fun r8 S8 h9 h10 v8=>?_
 obtain⟨SH,rfl,vH0⟩:=v8.split (by omega)
 have vH:=v6.trans vH0
 obtain⟨n8,rfl⟩:=Int.eq_ofNat_of_zero_le h9
 refine⟨_,_, .int ((1+n8:Nat):Int),rfl,rfl,rfl,1+n8,rfl,by omega,?_⟩
 refine(cu (fun i δ S8=>∃(os:List (Str × List Nat)) (S9:aH) (a6 a7 a8 a11 a12 a13 a14 a16:Option V3),os.length=i∧(∀x∈os,OW ks5 x.2∧gp 0 (.str x.1))∧Ev k S S9∧S8=S9++[SO.lst (ks5.map .int),SO.lst (gs.map jS),SO.lst (os.map xG)]∧δ=tE k S.length (.int mo) (.int ga) (.lst (l.map MT.inD)) (gA l) a6 a7 a8 a11 a12 a13 a14 a16)
  ⟨[],SH,_,_,_,_,_,_,_,_,rfl,by simp,vH,rfl,rfl⟩ ?_).mono fun o S8 ⟨δ8,e8,os,S9,c6,c7,c8,c11,c12,c13,c14,c16,hol,hoo,v9,hS8,hδ⟩=>⟨δ8,e8,?_⟩
 ·rintro i v δ S8 hv ⟨os,S9,c6,c7,c8,c11,c12,c13,c14,c16,hol,hoo,v9,rfl,rfl⟩
  obtain⟨hi,rfl⟩:=NT.jX hv
  refine⟨tE k S.length (.int mo) (.int ga) (.lst (l.map MT.inD)) (gA l) (some (.d (.int i))) c7 c8 c11 c12 c13 c14 c16,rfl,?_⟩
  refine(zR hk (by omega) (by omega) (by omega) (by omega) v9).mono fun o S10 ⟨δ10,e10,x,S11,d8,d12,d16,hδ10,v11,eS10,hx1,hx2⟩=>⟨δ10,e10,os++[x],S11,_,_,_,_,_,_,_,_,by simp [hol],?_,v11,eS10,hδ10⟩
  intro y hy
  rcases List.mem_append.mp hy with q | q
  ·exact hoo y q
  ·rw[List.mem_singleton.mp q];exact⟨hx1,hx2⟩
 subst hδ hS8
 rw[NT.g_] at hol
 unfold tE
 have l9:=v9.len
 refine fq <| qW <| ax <| w_var (v:= .d (.lst (l.map MT.inD))) rfl <| ax <| w_var (v:= .loc (S.length+1)) rfl <| ax <| w_var (v:= .loc (S.length+2)) rfl <| cf ⟨by simp;omega,_,rfl,rW (d:=bH l gs os) v9 (mz _ _ _) ?_ ?_ (h l gs os S9 hl1 hl6 (by omega) ⟨hli,hgs,by omega,by omega,fun x hx=>⟨⟨(hoo x hx).1.1,by rw[←hk5];exact(hoo x hx).1.2.1,fun a b hab ms hms p=>?_⟩,(hoo x hx).2⟩⟩ v9)⟩
 ·show fw S.length (.tup [.d (.lst (l.map MT.inD)), .loc (S.length+1), .loc (S.length+2)])=true
  simp [fw,l_]
 ·show res _ (.tup [.d (.lst (l.map MT.inD)), .loc (S.length+1), .loc (S.length+2)])=_
  have e2':(S9++[SO.lst (ks5.map .int),SO.lst (gs.map jS),SO.lst (os.map xG)])[S.length+1]? =some (.lst (gs.map jS)):=by rw[←l9];exact t2
  have e3':(S9++[SO.lst (ks5.map .int),SO.lst (gs.map jS),SO.lst (os.map xG)])[S.length+2]? =some (.lst (os.map xG)):=by rw[←l9];exact t3
  simp [res,lx,e2',e3',bH]
 ·have:=(hoo x hx).1
  exact hK.v ms hms p a b (this.2.1 a (by rw[hab];simp)) (this.2.1 b (by rw[hab];simp)) (this.2.2 a b hab)
end K26
end
section
set_option maxRecDepth 100000
set_option maxHeartbeats 4000000
namespace K26
open PySem PySem.Spec PyProof.Rows L2 L3 MT
noncomputable abbrev f0:M:=fun _=>false
theorem AO{ws:List M}{b:M}{n:Nat}:g6 (ws++[b]) n=if n < ws.length then g6 ws n else if n=ws.length then b else f0:=by
 by_cases q:n < ws.length
 ·rw[if_pos q,oB q]
 ·rw[if_neg q]
  by_cases r:n=ws.length
  ·rw[if_pos r,r,pT]
  ·rw[if_neg r]
   unfold g6
   rw[List.getD_eq_getElem?_getD,List.getElem?_eq_none (by simp;omega)];rfl
section
variable {ins:List (Str × Nat)} {gs:List Gt} {ms ms':List M} {t bad:List Int} {p q:Nat}
noncomputable def uX(p q:Nat)(ws ws':List M):Prop:=ws.length=ws'.length∧∀n,g6 ws n p=g6 ws' n q
theorem uX.app{ws ws':List M}{b b':M}(h:uX p q ws ws')(hb:b p=b' q):uX p q (ws++[b]) (ws'++[b']):=by
 refine⟨by rw[List.length_append,List.length_append,h.1];rfl,fun n=>?_⟩
 rw[AO,AO,h.1]
 by_cases r:n < ws'.length
 ·rw[if_pos r,if_pos r];exact h.2 n
 ·rw[if_neg r,if_neg r]
  by_cases r2:n=ws'.length
  ·rw[if_pos r2,if_pos r2];exact hb
  ·rw[if_neg r2,if_neg r2]
theorem uX.row{b b':M}(hb:b p=b' q):∀m {ws ws':List M},uX p q ws ws'→uX p q (fM bad b m ws) (fM bad b' m ws')
 | 0,ws,ws',h=>h
 | m+1,ws,ws',h=>by
   have ih:=uX.row hb m h
   unfold fM
   refine ih.app ?_
   rw[hb,ih.1]
theorem uX.JB(h1:ms.length=ins.length)(h2:ms'.length=ins.length)(h:∀j,j < ins.length→ms.getD j f0 p=ms'.getD j f0 q):∀i,i≤ins.length→uX p q (cZ ins ms bad i) (cZ ins ms' bad i)
 | 0,_=>⟨rfl,fun n=>rfl⟩
 | i+1,hi=>by
   have e1:ms[i]? =some ms[i]:=List.getElem?_eq_getElem (by omega)
   have e2:ms'[i]? =some ms'[i]:=List.getElem?_eq_getElem (by omega)
   have hh:=h i (by omega)
   rw[List.getD_eq_getElem?_getD,e1,List.getD_eq_getElem?_getD,e2] at hh
   unfold cZ
   rw[List.getElem?_eq_getElem (by omega:i < ins.length),e1,e2]
   exact uX.row hh _ (uX.JB h1 h2 h i (by omega))
theorem uX.DQ{w0 w0':List M}(h:uX p q w0 w0'):∀i,i≤gs.length→uX p q (kI gs t w0 i) (kI gs t w0' i)
 | 0,_=>h
 | i+1,hi=>by
   have ih:=uX.DQ h i (by omega)
   unfold kI
   rw[List.getElem?_eq_getElem (by omega:i < gs.length)]
   refine ih.app ?_
   show(gF gs[i] (kI gs t w0 i) p !=t.contains (i:Int))=(gF gs[i] (kI gs t w0' i) q !=t.contains (i:Int))
   unfold gF
   have:(gs[i].2.1.map fun n=>g6 (kI gs t w0 i) n p)=gs[i].2.1.map fun n=>g6 (kI gs t w0' i) n q:=List.map_congr_left fun n _=>ih.2 n
   rw[this]
theorem G3(h1:ms.length=ins.length)(h2:ms'.length=ins.length)(h:∀j,j < ins.length→ms.getD j f0 p=ms'.getD j f0 q)(n:Nat):g6 (lD ins gs ms t bad) n p=g6 (lD ins gs ms' t bad) n q:=
 (uX.DQ (uX.JB h1 h2 h _ (Nat.le_refl _)) _ (Nat.le_refl _)).2 n
end
noncomputable def cM(b:Bool):M:=fun _=>b
theorem KJ(f:M):mI 1 f=bI (f 0):=by
 unfold mI bI iF iF
 cases f 0 <;> rfl
theorem Jo(b:Bool):mI 1 (cM b)=bI b:=KJ _
theorem Eb(bits:List Bool):bits.map bI=(bits.map cM).map (mI 1):=by
 rw[List.map_map]
 exact List.map_congr_left fun b _=>(Jo b).symm
section
variable {c:Nat} {ins:List (Str × Nat)} {gs:List Gt} {os:List (Str × List Nat)} {S:aH} {T:List Int}
theorem E6{bits:List Bool}{p n:Nat}(hc:ins.length=c)(hp:(bt c)[p]? =some bits):g6 (lD ins gs (bits.map cM) T []) n 0=g6 (Wd c ins gs T []) n p:=by
 have hbl:=gW c bits (List.mem_of_getElem? hp)
 refine G3 (by rw[List.length_map,hbl,hc]) (by rw[o_,hc]) (fun j hj=>?_) n
 rw[hc] at hj
 unfold qu
 rw[List.getD_eq_getElem?_getD,List.getElem?_map,List.getElem?_eq_getElem (by omega:j < bits.length),List.getD_eq_getElem?_getD,List.getElem?_map,List.getElem?_range hj]
 show bits[j]=GQ c j p
 unfold GQ
 rw[List.getD_eq_getElem?_getD (l:=bt c),hp]
 show _=bits.getD j false
 rw[List.getD_eq_getElem?_getD,List.getElem?_eq_getElem (by omega:j < bits.length)]
 rfl
noncomputable def tD(r:Bool × Bool):D:=if r.1 then .int 0 else if r.2 then .int 1 else .cK
theorem vh{N p:Nat}{f g:M}(hp:p < N):gT [.tup [mI N f,mI N g], .int p]= .ok (tD (f p,g p)):=by
 unfold gT qI tD
 have b0:b2 jl (aX fJ (ay (e2 c0 (ah 0) (eC (.int 0))) (ay (ah 1) aV))) (eC (.int 1)) (cU i9 [.tup [mI N f,mI N g], .int p])= .ok (f p):=by
  refine eJ (a:= .int (if decide (p < N) && f p then 1 else 0)) (b:= .int 1) (aN (ds:=[mI N f, .int (p:Nat)]) (aR (aJ (a:= .tup [mI N f,mI N g]) (b:= .int 0) rfl rfl yi) rfl) Bf) rfl ?_
  rw[decide_eq_true hp]
  cases f p <;> rfl
 have b1:b2 jl (aX fJ (ay (e2 c0 (ah 0) (eC (.int 1))) (ay (ah 1) aV))) (eC (.int 1)) (cU i9 [.tup [mI N f,mI N g], .int p])= .ok (g p):=by
  refine eJ (a:= .int (if decide (p < N) && g p then 1 else 0)) (b:= .int 1) (aN (ds:=[mI N g, .int (p:Nat)]) (aR (aJ (a:= .tup [mI N f,mI N g]) (b:= .int 1) rfl rfl zi) rfl) Bf) rfl ?_
  rw[decide_eq_true hp]
  cases g p <;> rfl
 show mW i9 _ _= .ok (if f p then _ else if g p then _ else _)
 cases q0:f p with
 | true=>rw [q0] at b0;exact dn (NT.iI (nP b0 (cz rfl)))
 | false=>
   rw[q0] at b0
   cases q1:g p with
   | true=>rw [q1] at b1;exact dn (bN (gL b0 rfl) (NT.iI (nP b1 (cz rfl))))
   | false=>rw [q1] at b1;exact dn (bN (gL b0 rfl) (bN (gL b1 rfl) (cz rfl)))
theorem yf{xs:List M}(h:1≤xs.length∧xs.length≤3):lK [.tup (xs.map (mI 1))]= .ok (tD (DK (xs.map (· 0)))):=by
 unfold lK zA
 exact dn (cz (aN (ds:=[.tup [mI 1 (r0 xs),mI 1 (r1 xs)], .int 0]) (aR (aN (ds:=[.tup (xs.map (mI 1)),mI 1 one]) rfl (pH h)) rfl) (vh (p:=0) (by omega))))
theorem As{bits:List Bool}{bad:List Int}(NO:jb ins gs os)(hb:bits.length=ins.length)(hS:nD S){Q:V3→aH→Prop}(h:Q (.d (.lst (gY 1 os (lD ins gs (bits.map cM) T bad)))) S) :
 W3 (m8 [.d (bH ins gs os), .d (.tup (bits.map bI)), .d (.tup (T.map .int)), .d (.tup (bad.map .int))] S) Q:=by
 have hl:(bits.map cM).length=ins.length:=by rw[List.length_map,hb]
 unfold m8
 refine mi hS (tT rfl ?_)
 simp only[bM,yj,List.map_cons,List.map_nil,List.length_cons,List.length_nil,List.replicate,List.cons_append,List.nil_append,Nat.reduceAdd,Nat.reduceSub]
 unfold AV
 refine fq <| cV <| ax <| cB (d:=bH ins gs os) rfl <| ax <| cV <| ax <| cB (d:=bH ins gs os) rfl <| ax <| cB (d:= .tup (bits.map bI)) rfl <| ax <| cB (d:=mI 1 one) rfl <| ax <| cB (d:= .tup (T.map .int)) rfl <| ax <| cB (d:= .tup (bad.map .int)) rfl <| cf <| uL (bits:=bits.map cM) (.inr (by rw[Eb])) NO hl hS <| cf ?_
 refine xB NO.ho (fun x hx=>⟨(NO.o x hx).1,fun w hw=>by rw[uE hl];exact(NO.o x hx).2 w hw⟩) hS ?_
 exact⟨_,rfl,by unfold fw;rfl,⟨[],by simp⟩,_,by unfold res;rfl,h⟩
end
end K26
end
section
set_option maxRecDepth 100000
set_option maxHeartbeats 4000000
namespace K26
open PySem PySem.Spec PyProof.Rows L2 L3 MT
theorem vj(gs:List Gt):(eo gs).Pairwise (· < ·):=List.Pairwise.filter _ List.pairwise_lt_range
noncomputable def okN(s:List Nat)(o:Nat):Bool:=match s.getLast? with | none=>true | some l=>decide (o > l)
theorem mL{α β γ:Type}(f:α→β)(g:β→List γ):∀xs:List α,(xs.map f).flatMap g=xs.flatMap fun x=>g (f x)
 | []=>rfl
 | x ::xs=>by rw[List.map_cons,List.flatMap_cons,mL f g xs,List.flatMap_cons]
theorem z7(xs:List Bool):((DK xs).1 && (DK xs).2)=false:=by
 unfold DK
 split
 ·rename_i a;cases a <;> rfl
 ·rename_i a b;cases a <;> cases b <;> rfl
 ·rename_i a b c;cases a <;> cases b <;> cases c <;> rfl
 ·rfl
theorem ke:∀(s:Nat) (ps:List Nat),(gR ps s).length≤2 ^ ps.length
 | 0,ps=>by
   show 1≤_
   exact Nat.one_le_two_pow
 | s+1,ps=>by
   have key:∀(n:Nat) (qs:List Nat),qs.length=n→∀s,(∀rs:List Nat,(gR rs s).length≤2 ^ rs.length)→((List.range qs.length).map fun a=>(gR (qs.drop (a+1)) s).length).sum+1≤2 ^ n:=by
    intro n
    induction n with
    | zero=>intro qs hq s _;rw [hq];simp
    | succ n ih=>
      intro qs hq s hs
      match qs,hq with
      | x ::qs,hq=>
        rw[List.length_cons] at hq
        have h1:=ih qs (by omega) s hs
        rw[List.length_cons,List.range_succ_eq_map,List.map_cons,List.map_map,List.sum_cons]
        have h2:=hs qs
        have e:((fun a=>(gR ((x ::qs).drop (a+1)) s).length) ∘ Nat.succ)=fun a=>(gR (qs.drop (a+1)) s).length:=rfl
        rw[e,show(x ::qs).drop (0+1)=qs from rfl,Nat.pow_succ]
        have:qs.length=n:=by omega
        rw[this] at h2
        omega
   unfold gR
   rw[List.length_flatMap]
   have:(List.range ps.length).map (fun a=>((gR (ps.drop (a+1)) s).map (ps.getD a 0 ::·)).length)=(List.range ps.length).map fun a=>(gR (ps.drop (a+1)) s).length:=List.map_congr_left fun a _=>by rw[List.length_map]
   rw[this]
   have:=key ps.length ps rfl s fun rs=>ke s rs
   omega
noncomputable def j5(free:List Nat)(m:Nat):List (List Nat):=(List.range (m+1)).flatMap (gR free)
theorem qO(free:List Nat)(m:Nat):j5 free (m+1)=j5 free m++gR free (m+1):=by
 unfold j5
 rw[List.range_succ,List.flatMap_append];simp
theorem pU{free:List Nat}(h:free.length≤12):∀m,(j5 free m).length≤(m+1)*4096
 | 0=>by show([[]]++[]:List (List Nat)).length≤_;simp
 | m+1=>by
   have:=pU h m
   have h2:=ke (m+1) free
   have:2 ^ free.length≤4096:=Nat.pow_le_pow_right (by omega) (by omega:free.length≤12)
   rw[qO,List.length_append];omega
theorem DA{free T:List Nat}{m:Nat}(h:T∈j5 free m):T.length≤m∧∀x∈T,x∈free:=by
 unfold j5 at h
 obtain⟨s,hs,hT⟩:=List.mem_flatMap.mp h
 rw[List.mem_range] at hs
 obtain⟨h1,h2⟩:=jw hT
 exact⟨by omega,h2⟩
section
noncomputable def subB(T o:List Nat):Bool:=o.all fun x=>T.contains x
noncomputable def rZ(B:List Nat→Bool)(f:List (List Nat))(T:List Nat):List (List Nat):=if f.any (subB T) then f else if B T then f++[T] else f
noncomputable def nY(B:List Nat→Bool)(sets:List (List Nat)):List (List Nat):=sets.foldl (rZ B) []
theorem pW(B:List Nat→Bool):∀(xs f:List (List Nat)),(xs.foldl (rZ B) f).length≤f.length+xs.length
 | [],f=>by simp
 | x ::xs,f=>by
   have:=pW B xs (rZ B f x)
   rw[List.foldl_cons,List.length_cons]
   have h2:(rZ B f x).length≤f.length+1:=by unfold rZ;split <;> (try split) <;> simp
   omega
theorem ye(B:List Nat→Bool):∀(xs f:List (List Nat)),∀T∈xs.foldl (rZ B) f,T∈f∨T∈xs
 | [],f,T,h=> .inl h
 | x ::xs,f,T,h=>by
   rw[List.foldl_cons] at h
   rcases ye B xs _ T h with q | q
   ·unfold rZ at q
    split at q
    ·exact .inl q
    ·split at q
     ·rcases List.mem_append.mp q with z | z
      ·exact .inl z
      ·exact .inr (by rw[List.mem_singleton.mp z];exact List.mem_cons_self)
     ·exact .inl q
   ·exact .inr (List.mem_cons_of_mem _ q)
theorem I0(x:Nat)(T:List Nat):ue (nI x) (bw T)= .ok (.bl (T.contains x)):=by
 have h:=sR (x:Int) (nZ T)
 rw[yk,Be] at h
 exact h
theorem wM{T o:List Nat}(ho:o.length < 1000):fZ [bw T,bw o]= .ok (.bl (subB T o)):=by
 have hz:sizeLine=16777216:=sizeLine_eq
 unfold fZ q_
 refine dn (cz (aN (ds:=[.lst ((o.map fun x=>T.contains x).map .bl)]) (aR (dW (d7 (ds:=o.map nI) (k_ rfl) (by rw[List.length_map];omega) ?_)) rfl) ?_))
 ·rw[List.map_map]
  exact NT.d9 nI _ fun x _=>⟨[.val (nI x), .val (bw T)],rfl,rfl,aJ (a:=nI x) (b:=bw T) rfl rfl (I0 x T)⟩
 ·show(match bls? ((o.map fun x=>T.contains x).map D.bl) with | some bs=>R.ok (D.bl (bs.all id)) | none=> .no)=_
  rw[rM]
  show R.ok (D.bl ((o.map fun x=>T.contains x).all id))=_
  rw[List.all_map];rfl
theorem Gz(xs:List (List Nat)):BO (.lst (xs.map bw)) (.lst [])= .ok xs.isEmpty:=by
 have f:gp 2 (.lst (xs.map bw)):=gp.lst fun d hd=>by
  obtain⟨x,_,rfl⟩:=List.mem_map.mp hd
  exact gp.tup fun d hd=>by obtain⟨x,_,rfl⟩:=List.mem_map.mp hd;exact gp.int _
 have f2:gp 1 (.lst []):=gp.lst fun d hd=>by cases hd
 rw[wK,f.pl,f.sh (by omega),f2.pl,f2.sh (by omega)]
 cases xs with
 | nil=>rfl
 | cons g gs=>rfl
theorem DY(s:List Nat):BO (.lst (s.map nI)) (.lst [])= .ok s.isEmpty:=by
 have f:gp 1 (.lst (s.map nI)):=gp.lst fun d hd=>by obtain⟨x,_,rfl⟩:=List.mem_map.mp hd;exact gp.int _
 have f2:gp 1 (.lst []):=gp.lst fun d hd=>by cases hd
 rw[wK,f.pl,f.sh (by omega),f2.pl,f2.sh (by omega)]
 cases s with
 | nil=>rfl
 | cons g gs=>rfl
theorem zV{a b:D}{k:Bool}(h:BO a b= .ok k):jl a b= .ok (.bl k):=by unfold jl;rw [h];rfl
theorem Fs{a b:D}{k:Bool}(h:BO a b= .ok k):sC a b= .ok (.bl (!k)):=by unfold sC;rw [h];rfl
theorem tI{a b:D}{k:Bool}(h:ue a b= .ok (.bl k)):fG a b= .ok (.bl (!k)):=by
 unfold ue at h
 unfold fG
 cases q:inD a b with
 | ok c=>rw [q] at h;cases h;rfl
 | ex c=>rw [q] at h;cases h
 | no=>rw [q] at h;cases h
theorem zp(T:List Nat):md (bw T)=true:=uS T
section
variable {c:Nat} {l:List (Str × Nat)} {gs:List Gt} {os:List (Str × List Nat)} {S:aH} {safe:Bool} {m:Nat}
noncomputable def BT(safe:Bool)(c:Nat)(l:List (Str × Nat))(gs:List Gt)(os:List (Str × List Nat))(T:List Nat):Bool:=!(decide (iF (2 ^ c) (DJ safe c l gs os (nZ T))=0))
noncomputable def wb(safe:Bool)(c:Nat)(l:List (Str × Nat))(gs:List Gt)(os:List (Str × List Nat))(m:Nat):List (List Nat):=nY (BT safe c l gs os) (j5 (eo gs) m)
theorem Kv(f:M)(N:Nat):sC (mI N f) (.int 0)= .ok (.bl (!(decide (iF N f=0)))):=by
 show R.ok (D.bl (!((iF N f:Int)==0)))=_
 congr 3
 by_cases q:iF N f=0
 ·rw[q];rfl
 ·rw[decide_eq_false q];exact beq_eq_false_iff_ne.mpr (by omega)
theorem oK{xs:List (List Nat)}{B:List Nat→Bool}(hx:∀T∈xs,T.length < 1000):∀o∈nY B xs,o.length < 1000:=fun o ho=>by
 rcases ye B xs [] o ho with q | q
 ·cases q
 ·exact hx o q
theorem yq(B:List Nat→Bool)(xs:List (List Nat))(T:List Nat):nY B (xs++[T])=rZ B (nY B xs) T:=by unfold nY;rw [List.foldl_append];rfl
theorem u_{free:List Nat}(hm:m≤12):∀T∈j5 free m,T.length < 1000:=fun T hT=>by have:=(DA hT).1;omega
noncomputable def yE(nt mm lv:D)(n:Nat)(a5 a6:Option V3):DE:=[some (.d nt),some (.d mm),some (.d lv),some (.loc n),some (.loc (n+2)),a5,a6]
noncomputable def YS(S:aH)(c:Nat)(l:List (Str × Nat))(gs:List Gt)(os:List (Str × List Nat))(f:List (List Nat)):aH:=S++[.ins 1 (gf c l gs os (S.length+1)), .ins 0 (eh c (bH l gs os)), .lst (f.map bw)]
theorem Fh(hS:nD S)(f:List (List Nat)):nD (YS S c l gs os f):=by
 have:YS S c l gs os f=S++[.ins 1 (gf c l gs os (S.length+1)), .ins 0 (eh c (bH l gs os))]++[.lst (f.map bw)]:=by unfold YS;simp
 rw[this]
 refine nD.push (F4 hS ?_ rfl) (ph _)
 show(decide (S.length+1 < S.length+2) && true)=true
 rw[decide_eq_true (by omega)];rfl
theorem Ak{mm:D}{f:List (List Nat)}{T:List Nat}{a5:Option V3}(NO:jb l gs os)(hc:l.length=c)(ho:∀x∈os,1≤x.2.length∧x.2.length≤3)(hS:nD S)(hfs:∀o∈f,o.length < 1000)(hfl:f.length < 100000) :
 W3 (js (yE (bH l gs os) mm (.str (iC safe)) S.length a5 (some (.d (bw T)))) (YS S c l gs os f)) fun o S2=>o= .nx (yE (bH l gs os) mm (.str (iC safe)) S.length a5 (some (.d (bw T))))∧S2=YS S c l gs os (rZ (BT safe c l gs os) f T):=by
 have hz:sizeLine=16777216:=sizeLine_eq
 have hg:(YS S c l gs os f)[S.length+2]? =some (.lst (f.map bw)):=t3
 have hk:(YS S c l gs os f)[S.length]? =some (.ins 1 (gf c l gs os (S.length+1))):=t1
 have hb:(YS S c l gs os f)[S.length+1]? =some (.ins 0 (eh c (bH l gs os))):=t2
 unfold js
 refine mF <| CK (b:=f.any (subB T)) ?_ ?_
 ·have e:aX Cs (ay (eNew (eK (dz (ah 4)) (bb 0) qh (aX fZ (ay (ah 1) (ay (ah 0) aV))) [(Str.ofString "others")] [6])) aV) (cD (YS S c l gs os f) (yE (bH l gs os) mm (.str (iC safe)) S.length a5 (some (.d (bw T)))))= .ok (.bl (f.any (subB T))):=by
   refine aN (ds:=[.lst ((f.map (subB T)).map .bl)]) (aR (dW (d7 (ds:=f.map bw) (kr (oR rfl (eU hg))) (by rw[List.length_map];omega) ?_)) rfl) ?_
   ·rw[List.map_map]
    exact NT.d9 bw _ fun o ho'=>⟨[.val (bw o), .val (bw T)],rfl,rfl,aN (ds:=[bw T,bw o]) rfl (wM (hfs o ho'))⟩
   ·show(match bls? ((f.map (subB T)).map D.bl) with | some bs=>R.ok (D.bl (bs.any id)) | none=> .no)=_
    rw[rM]
    show R.ok (D.bl ((f.map (subB T)).any id))=_
    rw[List.any_map];rfl
  unfold lu
  rw[e];rfl
 unfold rZ
 cases hany:f.any (subB T) with
 | true=>rw [if_pos rfl,if_pos rfl];exact fT ⟨rfl,rfl⟩
 | false=>
   rw[if_neg (by decide),if_neg (by decide)]
   refine mF <| GV <| sF (k:=S.length) <| w_var (v:= .loc S.length) rfl ⟨_,rfl,hk,GD _ (by decide+kernel) (by decide+kernel) (by decide+kernel),?_⟩
   refine ax <| cB (d:= .tup ((nZ T).map .int)) (by rw[yk];rfl) <| ax <| cB (d:= .str (iC safe)) rfl <| cf <| yX NO hc ho (Fh hS f) hk hb <| cB (d:= .int 0) rfl ⟨_,_,_,rfl,rfl,Kv _ _,?_⟩
   show if BT safe c l gs os T then _ else _
   cases BT safe c l gs os T with
   | true=>
     rw[if_pos rfl,if_pos rfl]
     refine kU (k:=S.length+2) rfl ⟨_,hg⟩ <| cB (d:=bw T) rfl ⟨_,_,rfl,hg,by rw[List.length_map];omega,rfl,?_⟩
     unfold YS
     rw[u3,List.map_append];rfl
   | false=>rw [if_neg (by decide),if_neg (by decide)];exact fT ⟨rfl,rfl⟩
theorem vN(NO:jb l gs os)(hc:l.length=c)(hc1:c≤10)(ho:∀x∈os,1≤x.2.length∧x.2.length≤3)(hg:gs.length≤12)(hm:m≤3)(hS:nD S){Q:V3→aH→Prop}(h:Q (.loc (S.length+2)) (YS S c l gs os (wb safe c l gs os m))) :
 W3 (iU [.d (bH l gs os), .d (nI m), .d (.str (iC safe))] S) Q:=by
 have hz:sizeLine=16777216:=sizeLine_eq
 have hul:(eo gs).length≤12:=Nat.le_trans w9 hg
 unfold iU
 refine tT rfl ?_
 simp only[bM,f_,List.map_cons,List.map_nil,List.length_cons,List.length_nil,List.replicate,List.cons_append,List.nil_append,Nat.reduceAdd,Nat.reduceSub]
 unfold jH
 refine aT <| bF (by simp only[List.length_cons,List.length_nil,List.length_set];omega) <| Bb <| ax <| cB (d:=bH l gs os) rfl <| cf <| A5 NO hc hc1 ho hS ⟨rfl,_,rfl,?_⟩
 simp only[List.set_cons_succ,List.set_cons_zero]
 refine aT <| bF (by simp only[List.length_cons,List.length_nil,List.length_set];omega) <| i7 (ds:=[]) rfl ⟨_,rfl,?_⟩
 simp only[List.set_cons_succ,List.set_cons_zero]
 have e0:TS S c l gs os++[SO.lst []]=YS S c l gs os []:=by unfold TS YS;simp
 have el:(TS S c l gs os).length=S.length+2:=by unfold TS;simp
 rw[e0,el]
 show W3 (bu _ _ (yE (bH l gs os) (nI m) (.str (iC safe)) S.length none none) _) _
 generalize hB:BT safe c l gs os=B
 have hbl:∀i,i≤4→∀j,(nY B ((List.range i).flatMap (gR (eo gs))++(gR (eo gs) i).take j)).length≤32768:=fun i hi j=>by
  have h1:=pW B ((List.range i).flatMap (gR (eo gs))++(gR (eo gs) i).take j) []
  have h2:(List.range i).flatMap (gR (eo gs))=if i=0 then [] else j5 (eo gs) (i - 1):=by
   cases i with
   | zero=>rfl
   | succ i=>rw [if_neg (by omega)];rfl
  have h3:((List.range i).flatMap (gR (eo gs))).length≤16384:=by
   rw[h2]
   split
   ·simp
   ·have:=pU hul (i - 1)
    have:(i - 1+1)*4096≤4*4096:=Nat.mul_le_mul_right _ (by omega)
    omega
  have h4:((gR (eo gs) i).take j).length≤4096:=by
   rw[List.length_take]
   have:=ke i (eo gs)
   have:2 ^ (eo gs).length≤4096:=Nat.pow_le_pow_right (by omega) (by omega:(eo gs).length≤12)
   omega
  rw[List.length_append] at h1
  unfold nY
  simp only[List.length_nil] at h1
  omega
 refine aT <| fS <| lY (ds:=dS 0 (m+1)) (kJ (n:=m+1) (aJ (a:=nI m) (b:= .int 1) rfl rfl rfl) (by omega)) ?_
 refine(cu (fun i δ S2=>S2=YS S c l gs os (nY B ((List.range i).flatMap (gR (eo gs))))∧∃a5 a6,δ=yE (bH l gs os) (nI m) (.str (iC safe)) S.length a5 a6)
  ⟨rfl,_,_,rfl⟩ ?_).mono fun o S2 ⟨δ2,e2',hS2,a5,a6,hδ⟩=>⟨δ2,e2',?_⟩
 ·rintro i v δ S2 hv ⟨rfl,a5,a6,rfl⟩
  obtain⟨hi,rfl⟩:=NT.jX hv
  refine⟨yE (bH l gs os) (nI m) (.str (iC safe)) S.length (some (.d (.int i))) a6,rfl,?_⟩
  have hcs:dr 4 [.lst ((eo gs).map nI), .int i]= .ok (.lst ((gR (eo gs) i).map bw)):=oZ 3 i (eo gs) (by omega) (by omega) (by omega)
  unfold mj
  refine fS <| yg <| oA <| ax <| w_fld (k:=S.length) <| w_var (v:= .loc S.length) rfl ⟨_,_,rfl,t1,FY,ax <| cB (d:= .int i) rfl <| cf ⟨[.lst ((eo gs).map nI), .int i],_,rfl,hcs,_,rfl,?_⟩⟩
  refine(cu (fun j δ S3=>S3=YS S c l gs os (nY B ((List.range i).flatMap (gR (eo gs))++(gR (eo gs) i).take j))∧∃a6,δ=yE (bH l gs os) (nI m) (.str (iC safe)) S.length (some (.d (.int i))) a6)
   ⟨by simp,_,rfl⟩ ?_).mono fun o S3 ⟨δ3,e3,hS3,b6,hδ3⟩=>⟨δ3,e3,?_,_,_,hδ3⟩
  ·rintro j v δ S3 hv ⟨rfl,b6,rfl⟩
   obtain⟨T,hT,rfl⟩:=NT.j1 hv
   refine⟨yE (bH l gs os) (nI m) (.str (iC safe)) S.length (some (.d (.int i))) (some (.d (bw T))),rfl,?_⟩
   refine(Ak NO hc ho hS (oK fun o ho'=>?_) (Nat.lt_of_le_of_lt (hbl i (by omega) j) (by omega))).mono fun o S4 ⟨e4,hS4⟩=>⟨_,e4,?_,_,rfl⟩
   ·rcases List.mem_append.mp ho' with q | q
    ·obtain⟨s,hs,hq⟩:=List.mem_flatMap.mp q
     rw[List.mem_range] at hs
     rw[(jw hq).1];omega
    ·rw[(jw (List.mem_of_mem_take q)).1];omega
   ·rw[hS4,hB,List.take_add_one,hT,←List.append_assoc,show(some T).toList=[T] from rfl,yq]
  ·rw[List.length_map,List.length_map,List.take_length] at hS3
   rw[hS3,List.range_succ,List.flatMap_append]
   simp
 ·subst hδ hS2
  rw[NT.g_]
  unfold yE
  refine fq <| w_var (v:= .loc (S.length+2)) rfl ⟨_,rfl,?_⟩
  rw[←hB]
  exact h
theorem wA(NO:jb l gs os)(hc:l.length=c)(hc1:c≤10)(ho:∀x∈os,1≤x.2.length∧x.2.length≤3)(hg:gs.length≤12)(hm:m≤3)(hS:nD S){Q:V3→aH→Prop}(h:Q (.d (.lst ((wb safe c l gs os m).map bw))) S) :
 W3 (iR [.d (bH l gs os), .d (nI m), .d (.str (iC safe))] S) Q:=by
 have e:iR [.d (bH l gs os), .d (nI m), .d (.str (iC safe))] S=mP f_ jH [.d (bH l gs os), .d (nI m), .d (.str (iC safe))] S:=rfl
 rw[e]
 refine mi hS ?_
 refine vN NO hc hc1 ho hg hm hS ⟨?_,⟨_,rfl⟩,_,eU t3,h⟩
 show decide (S.length≤S.length+2)=true
 exact decide_eq_true (by omega)
end
end
end K26
end
section
set_option maxRecDepth 100000
set_option maxHeartbeats 4000000
namespace K26
open PySem PySem.Spec PyProof.Rows L2 L3 MT
theorem FW{ds es:List D}(h:ds.length+es.length≤sizeLine):jg (.lst ds) (.lst es)= .ok (.lst (ds++es)):=CV h
theorem yG(l:List (List Bool)):(l.flatMap fun b=>[b++[false],b++[true]]).length=2*l.length:=by
 rw[List.length_flatMap]
 have:l.map (fun b=>[b++[false],b++[true]].length)=l.map fun _=>2:=rfl
 rw[this,List.map_const',List.sum_replicate_nat]
 omega
theorem yY{c:Nat}(hc:c≤10):eH [nI c]= .ok (.lst ((bt c).map bY)):=by
 have hz:sizeLine=16777216:=sizeLine_eq
 unfold eH mH
 refine dn (bN (iT (d:= .lst ((bt 0).map bY)) rfl (by simp [cU,ju])) ?_)
 obtain⟨δ1,e1,a2,a3,a4,hδ1⟩:=i3 (t:=bb 2) (body:=ix) (ds:=dS 0 c)
  (fun i δ=>∃a2 a3 a4,δ=[.val (nI c), .val (.lst ((bt i).map bY)),a2,a3,a4]) (δ:=[.val (nI c), .val (.lst ((bt 0).map bY)), .un, .un, .un]) ⟨.un, .un, .un,rfl⟩ (by
    rintro i d δ hd ⟨a2,a3,a4,rfl⟩
    have hi:i < c:=by
     have:=(List.getElem?_eq_some_iff.mp hd).1
     simpa [dS] using this
    have hpow:(bt i).length≤1024:=by
     rw[cF]
     exact Nat.pow_le_pow_right (by omega) (by omega:i≤10)
    generalize hL:D.lst ((bt i).map bY)=Li
    rw[show bb 2 d [.val (nI c), .val Li,a2,a3,a4]= .ok [.val (nI c), .val Li, .val d,a3,a4] from rfl,R.aO]
    unfold ix
    obtain⟨δ2,e2',b4,hδ2⟩:=i3 (t:=bb 4) (body:=g9) (ds:=(bt i).map bY)
     (fun j δ=>∃b4,δ=[.val (nI c), .val Li, .val d, .val (.lst ((((bt i).take j).flatMap fun b=>[b++[false],b++[true]]).map bY)),b4]) (δ:=[.val (nI c), .val Li, .val d, .val (.lst []),a4]) ⟨a4,by simp⟩ (by
       rintro j x δ hx ⟨b4,rfl⟩
       obtain⟨b,hb,rfl⟩:=NT.ot hx
       have hjl:=(List.getElem?_eq_some_iff.mp hb).1
       have hbl:=gW i b (List.mem_of_getElem? hb)
       have hlen:=yG ((bt i).take j)
       rw[List.length_take] at hlen
       refine⟨[.val (nI c), .val Li, .val d, .val (.lst ((((bt i).take (j+1)).flatMap fun b=>[b++[false],b++[true]]).map bY)), .val (bY b)],?_,⟨_,rfl⟩⟩
       have hst:(((bt i).take (j+1)).flatMap fun b=>[b++[false],b++[true]]).map bY=(((bt i).take j).flatMap fun b=>[b++[false],b++[true]]).map bY++[bY (b++[false]),bY (b++[true])]:=by
        rw[List.take_add_one,hb,List.flatMap_append,List.map_append]
        simp
       rw[hst]
       generalize hG:(((bt i).take j).flatMap fun b=>[b++[false],b++[true]]).map bY=G
       have hGl:G.length≤2048:=by rw[←hG,List.length_map];omega
       rw[show bb 4 (bY b) [.val (nI c), .val Li, .val d, .val (.lst G),b4]= .ok [.val (nI c), .val Li, .val d, .val (.lst G), .val (bY b)] from rfl,R.aO]
       unfold g9
       have add:∀(x:Bool),e2 jg (ah 4) (eW (ay (eC (bI x)) aV)) [.val (nI c), .val Li, .val d, .val (.lst G), .val (bY b)]= .ok (bY (b++[x])):=fun x=>by
        refine aJ (a:=bY b) (b:= .tup [bI x]) rfl (fB rfl (by simp;omega)) ?_
        show R.bE (decide ((b.map bI).length+[bI x].length≤sizeLine)) _=_
        rw[cb _ (by rw[List.length_map];simp;omega)]
        unfold bY
        rw[List.map_append];rfl
       exact iT (aJ (a:= .lst G) (b:= .lst [bY (b++[false]),bY (b++[true])]) rfl (dW (mf (aR (add false) (aR (add true) rfl)) (by simp;omega))) (FW (by simp;omega))) (by simp))
    rw[List.length_map,List.take_length] at hδ2
    subst hδ2
    refine⟨_,bN (iT (d:= .lst []) rfl (by simp)) (bN (mM (ds:=(bt i).map bY) (kr (by rw[hL];rfl)) e2') (iT (d:= .lst ((bt (i+1)).map bY)) rfl (by simp))),⟨.val d, .val (.lst ((bt (i+1)).map bY)),b4,rfl⟩⟩)
 refine bN (mM (ds:=dS 0 c) (kJ (n:=c) rfl (by omega)) e1) ?_
 have hlen:(dS 0 c).length=c:=by simp [dS]
 rw[hlen] at hδ1
 subst hδ1
 exact cz rfl
section
variable {c:Nat} {ins:List (Str × Nat)} {gs:List Gt} {os:List (Str × List Nat)} {S:aH} {safe:Bool}
noncomputable def HN(safe:Bool)(a b:Bool × Bool):Bool:=(!(a.1==b.1 && a.2==b.2)) && (!safe || (b.1 || b.2))
theorem EJ{a b:Bool × Bool}{δ:aw}(h7:ah 7 δ= .ok (tD b))(h6:ah 6 δ= .ok (tD a))(h2:ah 2 δ= .ok (.str (iC safe)))(ha:(a.1 && a.2)=false)(hb:(b.1 && b.2)=false):om (b2 sC (ah 7) (ah 6)) (vP (b2 jl (ah 2) (eC (.str (Str.ofString "right")))) (b2 AR (ah 7) (eC .cK))) δ= .ok (HN safe a b):=by
 have e1:b2 sC (ah 7) (ah 6) δ= .ok (!(a.1==b.1 && a.2==b.2)):=by
  refine eJ h7 h6 ?_
  obtain⟨a0,a1⟩:=a
  obtain⟨b0,b1⟩:=b
  cases a0 <;> cases a1 <;> cases b0 <;> cases b1 <;> first | rfl | exact absurd ha (by decide) | exact absurd hb (by decide)
 have e2:b2 jl (ah 2) (eC (.str (Str.ofString "right"))) δ= .ok (!safe):=by
  refine eJ h2 rfl ?_
  show R.ok (D.bl (iC safe==Str.ofString "right"))=_
  congr 2
  cases safe <;> decide+kernel
 have e3:b2 AR (ah 7) (eC .cK) δ= .ok (b.1 || b.2):=by
  refine eJ h7 rfl ?_
  obtain⟨b0,b1⟩:=b
  cases b0 <;> cases b1 <;> rfl
 unfold om vP HN
 rw[e1,R.aO]
 cases(!(a.1==b.1 && a.2==b.2)) with
 | false=>rfl
 | true=>
   rw[if_pos rfl,e2,R.aO]
   cases safe with
   | false=>rfl
   | true=>rw [if_neg (by decide),e3];rfl
theorem Ft{x y:Bool × Bool}(hx:x.2=!x.1)(hy:(y.1 && y.2)=false):HN safe x y=brk safe x y:=by
 obtain⟨x0,x1⟩:=x
 obtain⟨y0,y1⟩:=y
 simp only at hx hy
 subst hx
 unfold HN brk
 cases safe <;> cases x0 <;> cases y0 <;> cases y1 <;> first | rfl | cases hy
theorem kq{α:Type}(p:α→Bool)(v:V3):∀xs:List α,(xs.findSome? fun x=>if p x then some v else none)=if xs.any p then some v else none
 | []=>rfl
 | x ::xs=>by
   rw[List.findSome?_cons,List.any_cons,kq p v xs]
   cases p x <;> rfl
noncomputable def pE(nt tu lv:D)(a3 a4 a5 a6 a7:Option V3):DE:=[some (.d nt),some (.d tu),some (.d lv),a3,a4,a5,a6,a7]
theorem ni{T:List Nat}(NO:jb ins gs os)(hc:ins.length=c)(hc1:c≤6)(ho:∀x∈os,1≤x.2.length∧x.2.length≤3)(hsd:∀x∈os,∀p,(pt (Wd c ins gs [] []) x p).2=!(pt (Wd c ins gs [] []) x p).1)(hS:nD S){Q:V3→aH→Prop}
 (h:Q (.d (.bl (BT safe c ins gs os T))) S):W3 (dQ [.d (bH ins gs os), .d (bw T), .d (.str (iC safe))] S) Q:=by
 have hz:sizeLine=16777216:=sizeLine_eq
 unfold dQ
 refine mi hS (tT rfl ?_)
 simp only[bM,gQ,List.map_cons,List.map_nil,List.length_cons,List.length_nil,List.replicate,List.cons_append,List.nil_append,Nat.reduceAdd,Nat.reduceSub]
 unfold jy
 have hin:(bt c).map bY=(List.range (2 ^ c)).map fun p=>bY ((bt c).getD p []):=by
  rw[←cF c]
  refine List.ext_getElem? fun i=>?_
  rw[List.getElem?_map,List.getElem?_map]
  by_cases q:i < (bt c).length
  ·rw[List.getElem?_range q,List.getElem?_eq_getElem q]
   show _=some (bY ((bt c).getD i []))
   rw[List.getD_eq_getElem?_getD,List.getElem?_eq_getElem q];rfl
  ·rw[List.getElem?_eq_none (by omega),List.getElem?_eq_none (by simp;omega)];rfl
 refine Ed <| fS <| lY (ds:=(List.range (2 ^ c)).map fun p=>bY ((bt c).getD p [])) (by
  rw[←hin]
  exact kr (aN (ds:=[nI c]) (aR (aN (ds:=[.lst (ins.map MT.inD)]) (aR (aJ (a:=bH ins gs os) (b:= .int 0) rfl rfl rfl) rfl) (by rw[n3,List.length_map,hc];rfl)) rfl) (yY (by omega)))) ?_
 rw[List.map_map]
 refine(lO (S:=S) (V3.d ∘ fun p=>bY ((bt c).getD p [])) (fun p=>if DJ safe c ins gs os (nZ T) p then some (.d (.bl true)) else none) (fun δ=>∃a3 a4 a5 a6 a7,δ=pE (bH ins gs os) (bw T) (.str (iC safe)) a3 a4 a5 a6 a7)
  ⟨_,_,_,_,_,rfl⟩ ?_).mono fun o S1 ⟨e1,h1⟩=>?_
 ·rintro p hp δ ⟨a3,a4,a5,a6,a7,rfl⟩
  rw[List.mem_range] at hp
  have hpb:(bt c)[p]? =some ((bt c).getD p []):=by rw[List.getD_eq_getElem?_getD,List.getElem?_eq_getElem (by rw[cF];exact hp)];rfl
  show ∃δ1,iG 3 (.d (bY ((bt c).getD p []))) _=some δ1∧_
  generalize (bt c).getD p []=bits at hpb ⊢
  have hbl:=gW c bits (List.mem_of_getElem? hpb)
  refine⟨pE (bH ins gs os) (bw T) (.str (iC safe)) (some (.d (bY bits))) a4 a5 a6 a7,rfl,?_⟩
  unfold kF
  refine fS <| D2 <| cV <| ax <| cB (d:=bH ins gs os) rfl <| ax <| cB (d:= .tup (bits.map bI)) rfl <| ax <| cB (d:= .tup (([]:List Int).map .int)) (fB rfl (by simp)) <| ax <| cB (d:= .tup (([]:List Int).map .int)) (fB rfl (by simp)) <| cf <| As NO (by rw[hbl,hc]) hS <| cV <| ax <| cB (d:=bH ins gs os) rfl <| ax <| cB (d:= .tup (bits.map bI)) rfl <| ax <| cB (d:= .tup ((nZ T).map .int)) (by rw[yk];rfl) <| ax <| cB (d:= .tup (([]:List Int).map .int)) (fB rfl (by simp)) <| cf <| As NO (by rw[hbl,hc]) hS ⟨_,_,_,_,rfl,rfl,rfl,rfl,?_⟩
  have hzip:∀W0 W1:List M,qm (gY 1 os W0) (gY 1 os W1)=os.map fun x=> .tup [.tup ((tell W0 x).map (mI 1)), .tup ((tell W1 x).map (mI 1))]:=fun W0 W1=>by
   unfold qm gY
   rw[List.zip_map',List.map_map];rfl
  rw[hzip,List.map_map]
  have hpt:∀(T':List Int) (x:Str × List Nat),DK ((tell (lD ins gs (bits.map cM) T' []) x).map (· 0))=pt (Wd c ins gs T' []) x p:=fun T' x=>by
   unfold pt tell
   rw[List.map_map,List.map_map]
   congr 1
   exact List.map_congr_left fun n _=>E6 hc hpb
  refine(lO (S:=S) (V3.d ∘ fun x=> .tup [.tup ((tell (lD ins gs (bits.map cM) [] []) x).map (mI 1)), .tup ((tell (lD ins gs (bits.map cM) (nZ T) []) x).map (mI 1))]) (fun x=>if brk safe (pt (Wd c ins gs [] []) x p) (pt (Wd c ins gs (nZ T) []) x p) then some (.d (.bl true)) else none) (fun δ=>∃a4 a5 a6 a7,δ=pE (bH ins gs os) (bw T) (.str (iC safe)) (some (.d (bY bits))) a4 a5 a6 a7)
   ⟨_,_,_,_,rfl⟩ ?_).mono fun o S1 ⟨e1,h1⟩=>⟨e1,?_⟩
  ·rintro x hx δ ⟨a4,a5,a6,a7,rfl⟩
   have hx3:=ho x hx
   refine⟨pE (bH ins gs os) (bw T) (.str (iC safe)) (some (.d (bY bits))) (some (.d (.tup ((tell (lD ins gs (bits.map cM) [] []) x).map (mI 1))))) (some (.d (.tup ((tell (lD ins gs (bits.map cM) (nZ T) []) x).map (mI 1))))) a6 a7,rfl,?_⟩
   unfold kx
   refine aT <| bF (by unfold pE;simp only[List.length_cons,List.length_nil];omega) <| cB (d:=tD (pt (Wd c ins gs [] []) x p)) (aN (ds:=[.tup ((tell (lD ins gs (bits.map cM) [] []) x).map (mI 1))]) rfl ((yf (by unfold tell;rw [List.length_map];exact hx3)).trans (by rw[hpt]))) ⟨_,rfl,?_⟩
   refine aT <| bF (by unfold pE;simp only[List.length_cons,List.length_nil,List.length_set];omega) <| cB (d:=tD (pt (Wd c ins gs (nZ T) []) x p)) (aN (ds:=[.tup ((tell (lD ins gs (bits.map cM) (nZ T) []) x).map (mI 1))]) rfl ((yf (by unfold tell;rw [List.length_map];exact hx3)).trans (by rw[hpt]))) ⟨_,rfl,?_⟩
   have hx0:((pt (Wd c ins gs [] []) x p).1 && (pt (Wd c ins gs [] []) x p).2)=false:=by unfold pt;exact z7 _
   have hx1:((pt (Wd c ins gs (nZ T) []) x p).1 && (pt (Wd c ins gs (nZ T) []) x p).2)=false:=by unfold pt;exact z7 _
   refine mF <| rH (EJ (safe:=safe) rfl rfl rfl hx0 hx1) ?_
   rw[Ft (hsd x hx p) hx1]
   cases brk safe (pt (Wd c ins gs [] []) x p) (pt (Wd c ins gs (nZ T) []) x p) with
   | true=>rw [if_pos rfl,if_pos rfl];exact fq <| cB (d:= .bl true) rfl ⟨rfl,rfl⟩
   | false=>rw [if_neg (by decide),if_neg (by decide)];exact fT ⟨rfl,_,rfl,_,_,_,_,rfl⟩
  ·rw[kq] at h1
   have hb:DJ safe c ins gs os (nZ T) p=os.any fun x=>brk safe (pt (Wd c ins gs [] []) x p) (pt (Wd c ins gs (nZ T) []) x p):=rfl
   rw[hb]
   cases hq:os.any fun x=>brk safe (pt (Wd c ins gs [] []) x p) (pt (Wd c ins gs (nZ T) []) x p) with
   | true=>rw [hq,if_pos rfl] at h1;rw [if_pos rfl];exact h1
   | false=>
     rw[hq,if_neg (by decide)] at h1
     rw[if_neg (by decide)]
     obtain⟨δ2,e2',b4,b5,b6,b7,e3⟩:=h1
     exact⟨δ2,e2',_,b4,b5,b6,b7,e3⟩
 ·subst e1
  rw[kq] at h1
  have hb:BT safe c ins gs os T=(List.range (2 ^ c)).any (DJ safe c ins gs os (nZ T)):=by
   unfold BT
   rw[Bool.eq_iff_iff]
   simp only[Bool.not_eq_true',decide_eq_false_iff_not,List.any_eq_true]
   rw[tQ]
   constructor
   ·intro q
    refine Classical.byContradiction fun z=>q fun i hi=>?_
    cases hf:DJ safe c ins gs os (nZ T) i with
    | false=>rfl
    | true=>exact absurd ⟨i,List.mem_range.mpr hi,hf⟩ z
   ·rintro⟨i,hi,hf⟩ q
    rw[q i (List.mem_range.mp hi)] at hf;cases hf
  rw[hb] at h
  cases hq:(List.range (2 ^ c)).any (DJ safe c ins gs os (nZ T)) with
  | true=>
    rw[hq,if_pos rfl] at h1
    rw[hq] at h
    subst h1
    exact⟨_,rfl,by unfold fw;rfl,⟨[],by simp⟩,_,by unfold res;rfl,h⟩
  | false=>
    rw[hq,if_neg (by decide)] at h1
    rw[hq] at h
    obtain⟨δ2,rfl,b3,b4,b5,b6,b7,rfl⟩:=h1
    exact fq <| cB (d:= .bl false) rfl ⟨_,rfl,by unfold fw;rfl,⟨[],by simp⟩,_,by unfold res;rfl,h⟩
end
end K26
end
section
set_option maxRecDepth 100000
set_option maxHeartbeats 4000000
namespace K26
open PySem PySem.Spec PyProof.Rows L2 L3 MT
theorem o3{T o:List Nat}:subB T o=true↔∀x∈o,x∈T:=by
 unfold subB
 rw[List.all_eq_true]
 exact⟨fun h x hx=>by have:=h x hx;simpa using this,fun h x hx=>by simpa using h x hx⟩
theorem tR{B:List Nat→Bool}{f:List (List Nat)}{T o:List Nat}(h:o∈f):o∈rZ B f T:=by
 unfold rZ
 split
 ·exact h
 ·split
  ·exact List.mem_append_left _ h
  ·exact h
theorem nk{B:List Nat→Bool}:∀(xs:List (List Nat)) {f:List (List Nat)} {o:List Nat},o∈f→o∈xs.foldl (rZ B) f
 | [],_,_,h=>h
 | x ::xs,f,o,h=>by rw[List.foldl_cons];exact nk xs (tR h)
theorem pj{B:List Nat→Bool}:∀(xs f:List (List Nat)) {T:List Nat},T∈xs→B T=true→∃o∈xs.foldl (rZ B) f,∀x∈o,x∈T
 | x ::xs,f,T,h,hB=>by
   rw[List.foldl_cons]
   rcases List.mem_cons.mp h with rfl | h
   ·by_cases q:f.any (subB T)=true
    ·obtain⟨o,ho,hs⟩:=List.any_eq_true.mp q
     exact⟨o,nk xs (tR ho),o3.mp hs⟩
    ·refine⟨T,nk xs ?_,fun x hx=>hx⟩
     unfold rZ
     rw[if_neg q,if_pos hB]
     exact List.mem_append_right _ (List.mem_singleton.mpr rfl)
   ·exact pj xs _ h hB
theorem tP{B:List Nat→Bool}:∀(xs f:List (List Nat)) {T:List Nat},T∈xs.foldl (rZ B) f→T∈f∨∃ys zs,xs=ys++T ::zs∧B T=true∧(ys.foldl (rZ B) f).any (subB T)=false
 | [],f,T,h=> .inl h
 | x ::xs,f,T,h=>by
   rw[List.foldl_cons] at h
   rcases tP xs _ h with q | ⟨ys,zs,e,hB,hn⟩
   ·unfold rZ at q
    split at q
    ·exact .inl q
    ·rename_i hany
     split at q
     ·rename_i hBx
      rcases List.mem_append.mp q with z | z
      ·exact .inl z
      ·rw[List.mem_singleton.mp z]
       exact .inr ⟨[],xs,rfl,hBx,by cases hq:f.any (subB x) with | false=>exact hq | true=>exact absurd hq hany⟩
     ·exact .inl q
   ·exact .inr ⟨x ::ys,zs,by rw[e];rfl,hB,by rw[List.foldl_cons];exact hn⟩
theorem xl:∀{T free:List Nat},T.Sublist free→T∈gR free T.length
 | [],free,_=>by unfold gR;simp
 | x ::T,free,h=>by
   induction free with
   | nil=>cases h
   | cons y free ih=>
     have hstep:gR (y ::free) (x ::T).length=(gR free T.length).map (y ::·)++gR free (x ::T).length:=by
      show((List.range (y ::free).length).flatMap fun a=>(gR ((y ::free).drop (a+1)) T.length).map ((y ::free).getD a 0 ::·))=_
      rw[List.length_cons,List.range_succ_eq_map,List.flatMap_cons]
      congr 1
      show(List.map Nat.succ (List.range free.length)).flatMap _=(List.range free.length).flatMap fun a=>(gR (free.drop (a+1)) T.length).map (free.getD a 0 ::·)
      rw[mL]
      rfl
     rw[hstep]
     cases h with
     | cons _ h=>exact List.mem_append_right _ (ih h)
     | cons_cons _ h=>exact List.mem_append_left _ (List.mem_map_of_mem (xl h))
theorem uG:∀(s:Nat) (free T:List Nat),T∈gR free s→T.Sublist free
 | 0,free,T,h=>by unfold gR at h;rw [List.mem_singleton.mp h];exact List.nil_sublist _
 | s+1,free,T,h=>by
   unfold gR at h
   obtain⟨a,ha,h⟩:=List.mem_flatMap.mp h
   obtain⟨R,hR,rfl⟩:=List.mem_map.mp h
   rw[List.mem_range] at ha
   have:=uG s _ R hR
   have e:free.drop a=free.getD a 0 ::free.drop (a+1):=by
    rw[List.drop_eq_getElem_cons ha,List.getD_eq_getElem?_getD,List.getElem?_eq_getElem ha];rfl
   exact(e▸List.Sublist.cons_cons _ this).trans (List.drop_sublist a free)
theorem mG{free T:List Nat}{m:Nat}:T∈j5 free m↔T.Sublist free∧T.length≤m:=by
 unfold j5
 rw[List.mem_flatMap]
 constructor
 ·rintro⟨s,hs,h⟩
  rw[List.mem_range] at hs
  exact⟨uG s free T h,by rw[(jw h).1];omega⟩
 ·rintro⟨h1,h2⟩
  exact⟨T.length,List.mem_range.mpr (by omega),xl h1⟩
theorem nF(free:List Nat):∀m,(j5 free m).Pairwise (fun a b=>a.length≤b.length)
 | 0=>by show([[]]:List (List Nat)).Pairwise _;simp
 | m+1=>by
   rw[qO,List.pairwise_append]
   refine⟨nF free m,?_,fun a ha b hb=>?_⟩
   ·refine List.pairwise_iff_forall_sublist.mpr fun {a b} hab=>?_
    have ha:=hab.subset (List.mem_cons_self)
    have hb:=hab.subset (List.mem_cons_of_mem _ (List.mem_singleton.mpr rfl))
    rw[(jw ha).1,(jw hb).1];omega
   ·rw[(jw hb).1]
    have:=(mG.mp ha).2
    omega
theorem tj{B:List Nat→Bool}{free:List Nat}{m:Nat}{T:List Nat}(h:T∈nY B (j5 free m)):T.Sublist free∧T.length≤m∧B T=true∧∀R:List Nat,R.Sublist T→R.length < T.length→B R=false:=by
 rcases tP _ [] h with q | ⟨ys,zs,e,hB,hn⟩
 ·cases q
 have hT:T∈j5 free m:=by rw[e];simp
 obtain⟨h1,h2⟩:=mG.mp hT
 refine⟨h1,h2,hB,fun R hR hl=>?_⟩
 cases hBR:B R with
 | false=>rfl
 | true=>
   have hRA:R∈j5 free m:=mG.mpr ⟨hR.trans h1,by omega⟩
   have hso:=nF free m
   rw[e] at hRA hso
   have hRy:R∈ys:=by
    rcases List.mem_append.mp hRA with q | q
    ·exact q
    ·exfalso
     have h3:=(List.pairwise_append.mp hso).2.1
     rcases List.mem_cons.mp q with rfl | q
     ·omega
     ·have:=(List.pairwise_cons.mp h3).1 R q
      omega
   obtain⟨o,ho,hoR⟩:=pj ys [] hRy hBR
   have:(ys.foldl (rZ B) []).any (subB T)=true:=List.any_eq_true.mpr ⟨o,ho,o3.mpr fun x hx=>hR.subset (hoR x hx)⟩
   rw[hn] at this;cases this
theorem yU{B:List Nat→Bool}{free:List Nat}{m:Nat}{T:List Nat}(h1:T.Sublist free)(h2:T.length≤m)(hB:B T=true):∃o∈nY B (j5 free m),∀x∈o,x∈T:=pj _ [] (mG.mpr ⟨h1,h2⟩) hB
end K26
end
section
set_option maxRecDepth 100000
set_option maxHeartbeats 4000000
namespace K26
open PySem PySem.Spec PyProof.Rows L2 L3 MT
section
variable {c:Nat} {ins:List (Str × Nat)} {gs:List Gt} {os:List (Str × List Nat)}
theorem z9{x:Str × List Nat}{p:Nat}(hl:1≤x.2.length∧x.2.length≤3)(h2:∀a b,x.2=[a,b]→g6 (Wd c ins gs [] []) a p=g6 (Wd c ins gs [] []) b p):(pt (Wd c ins gs [] []) x p).2=!(pt (Wd c ins gs [] []) x p).1:=by
 unfold pt tell
 rw[List.map_map]
 obtain⟨s,ws⟩:=x
 match ws,hl,h2 with
 | [a],_,_=>show g6 _ a p=!(!(g6 _ a p));rw [Bool.not_not]
 | [a,b],_,h2=>
   show(g6 (Wd c ins gs [] []) a p && g6 (Wd c ins gs [] []) b p)=!(!(g6 (Wd c ins gs [] []) a p || g6 (Wd c ins gs [] []) b p))
   rw[h2 a b rfl]
   cases g6 (Wd c ins gs [] []) b p <;> rfl
 | [a,b,d],_,_=>
   show _=!(!_)
   rw[Bool.not_not];rfl
theorem DN.no(h:DN ins gs os)(hi:ins.length < 100)(hg:gs.length < 1000):jb ins gs os:=⟨hi,fun x hx=>by have:=(h.li x hx).1;omega,hg,h.gg,by have:=h.oL;omega,fun x hx=>⟨by have:=(h.oo x hx).1.1;omega,(h.oo x hx).1.2.1⟩⟩
theorem DN.w3(h:DN ins gs os):∀x∈os,1≤x.2.length∧x.2.length≤3:=fun x hx=>(h.oo x hx).1.1
theorem DN.sd(h:DN ins gs os)(hc:ins.length=c):∀x∈os,∀p,(pt (Wd c ins gs [] []) x p).2=!(pt (Wd c ins gs [] []) x p).1:=fun x hx p=>z9 (h.w3 x hx) fun a b hab=>(h.oo x hx).1.2.2 a b hab (qu c) (by rw[o_,hc]) p
end
noncomputable def ym(n:Nat)(S:aH):Prop:=Flat S∧S.length=n∧∀k,k < n→sU k S
theorem Dq(cs:List Int)(hc:cs.length≤63){Q:V3→aH→Prop}(h:∀(n:Nat) S1,0 < n→ym n S1→Q (.lst ((List.range n).map .loc)) S1):W3 (gr [.d (.lst (cs.map .int))] []) Q:=by
 have hz:sizeLine=16777216:=sizeLine_eq
 unfold gr
 refine tT rfl ?_
 simp only[bM,iB,List.map_cons,List.map_nil,List.length_cons,List.length_nil,List.replicate,List.cons_append,List.nil_append,Nat.reduceAdd,Nat.reduceSub]
 unfold lP
 cases cs with
 | nil=>
   refine zN (mF (rH (b:=true) rfl ?_))
   rw[if_pos rfl]
   refine fq (GI (ax (i7 (ds:=[.int 0, .int 0]) (mf rfl (by simp;omega)) (cf ⟨by simp;omega,_,rfl,_,rfl,?_⟩))))
   refine h 1 _ (by omega) ⟨uO _,rfl,fun k hk=>⟨uO _,0,0,?_⟩⟩
   ·obtain rfl:k=0:=by omega
    rfl
 | cons c cs=>
   refine aT (mF (rH (b:=false) ?_ ?_))
   ·refine eJ (a:= .int ((c ::cs).length:Nat)) (b:= .int 0) ?_ rfl ?_
    ·exact aN (ds:=[.lst ((c ::cs).map .int)]) rfl (by rw[n3,List.length_map])
    ·have:¬(((c ::cs).length:Int)=0):=by rw[List.length_cons];omega
     show R.ok (D.bl (decide (((c ::cs).length:Int)=0)))=_
     rw[decide_eq_false this]
   rw[if_neg (by decide)]
   refine fT ⟨_,rfl,fq (BG (lY (ds:=(c ::cs).map .int) ?_ ⟨by simp at hc ⊢;omega,?_⟩))⟩
   ·refine kr (sG (d:= .lst ((c ::cs).map .int)) (lo:=none) (hi:=some 63) rfl rfl rfl ?_)
    show R.ok (D.lst (L2.cutD _ none (some 63)))=_
    rw[wc _ (by omega),List.take_of_length_le (by simp at hc ⊢;omega)]
   generalize hcc:c ::cs=cc at hc
   have hpos:0 < cc.length:=by rw[←hcc];simp
   refine(qF (fun i ys S=>ys=(List.range i).map V3.loc∧Flat S∧S.length=i∧∀k,k < i→∃a c,S[k]? =some (.lst [.int a, .int c])) ⟨rfl,(by intro o ho;cases ho),rfl,fun k hk=>(by omega)⟩ ?_).mono fun ys S2 ⟨e,hL,hl,hp⟩=>⟨_,rfl,?_⟩
   ·rintro i v ys S hv ⟨rfl,hL,hl,hp⟩
    obtain⟨d,hd,rfl⟩:=List.mem_map.mp (List.mem_of_getElem? hv)
    obtain⟨x,_,rfl⟩:=List.mem_map.mp hd
    refine⟨_,rfl,yc ?_⟩
    rw[if_pos rfl]
    refine i7 (ds:=[.int x, .int 0]) (mf rfl (by simp;omega)) ⟨?_,hL.push (ph _),by simp [hl],fun k hk=>?_⟩
    ·rw[List.range_succ,List.map_append,hl];rfl
    ·by_cases hki:k < i
     ·obtain⟨a,c,e⟩:=hp k hki
      exact⟨a,c,by rw[List.getElem?_append_left (by omega)];exact e⟩
     ·obtain rfl:k=i:=by omega
      refine⟨x,0,?_⟩
      rw[←hl]
      exact bG _ _
   ·rw[List.length_map,List.length_map] at e hl hp
    have hm:iy ys= .lst ((List.range cc.length).map .loc):=by
     rw[e]
     obtain⟨m,hm⟩:∃m,cc.length=m+1:=⟨cc.length - 1,by omega⟩
     rw[hm,List.range_succ_eq_map,List.map_cons]
     rfl
    rw[hm]
    exact h cc.length S2 hpos ⟨hL,hl,fun k hk=>⟨hL,hp k hk⟩⟩
theorem ym.ev{n k:Nat}{S S1:aH}(h:ym n S)(hk:k < n)(v:Ev k S S1):ym n S1:=⟨v.p.1,by rw[v.len];exact h.2.1,fun j hj=>by
 by_cases q:j=k
 ·subst q;exact v.p
 ·obtain⟨_,a,c,e⟩:=h.2.2 j hj
  exact⟨v.p.1,a,c,by rw[v.oth j q];exact e⟩⟩
end K26
end
section
set_option maxRecDepth 100000
set_option maxHeartbeats 4000000
namespace K26
open PySem PySem.Spec PyProof.Rows L2 L3 MT
theorem Fz{f g:aw→R Bool}{δ:aw}{a b:Bool}(h1:f δ= .ok a)(h2:g δ= .ok b):vP f g δ= .ok (a || b):=by
 unfold vP
 rw[h1,R.aO]
 cases a with
 | true=>rw [if_pos rfl];rfl
 | false=>rw [if_neg (by decide),h2];rfl
theorem Ht{fa fb:FX}{δ:DE}{S:aH}{QV:V3→aH→Prop}(h:W3 (fa δ S) fun a S1=>W3 (fb δ S1) fun b S2=>∃vs i v,a= .lst vs∧b= .d (.int i)∧nK vs i=some v∧QV v S2):W3 (D1 fa fb δ S) QV:=
 W3.bind (h.mono fun _ _ h=>W3.bind (h.mono fun _ _ ⟨vs,i,v,e1,e2,e3,q⟩=>by
  subst e1 e2
  simp only[e3]
  exact W3.ok q))
theorem Gv(x:Nat)(ns:List Nat):ue (nI x) (.lst (ns.map nI))= .ok (.bl (ns.contains x)):=by
 have h:ue (.int (x:Int)) (.lst ((nZ ns).map .int))= .ok (.bl ((nZ ns).contains (x:Int))):=by
  show((match ints? ((nZ ns).map D.int) with | some ss=>R.ok (ss.contains (x:Int)) | none=> .no)).bind (fun b=>R.ok (D.bl b))=_
  rw[L2.ints_map];rfl
 rw[yk,Be] at h
 exact h
theorem yu{o T:List Nat}{δ:aw}(hl:o.length < 1000)(h0:ah 0 δ= .ok (bw o))(hk:pd [(Str.ofString "place")] [1] δ=[.un, .val (.lst (T.map nI))]):b2 jl (eNew (eK (dz (ah 0)) (bb 0) (b2 fG (ah 0) (ah 1)) (ah 0) [(Str.ofString "place")] [1])) (eNew (dN aV)) δ= .ok (subB T o):=by
 have hz:sizeLine=16777216:=sizeLine_eq
 refine eJ (a:= .lst ((o.filter fun x=>!T.contains x).map nI)) (b:= .lst []) (dW (d7 (ds:=o.map nI) (k_ h0) (by rw[List.length_map];omega) ?_)) rfl ((zV (DY _)).trans ?_)
 ·rw[hk]
  exact NT.gZ (fun x=>!T.contains x) nI nI fun x _=>⟨[.val (nI x), .val (.lst (T.map nI))],rfl,eJ (a:=nI x) (b:= .lst (T.map nI)) rfl rfl (tI (Gv x T)),fun _=>rfl⟩
 ·congr 2
  unfold subB
  rw[Bool.eq_iff_iff,List.isEmpty_iff,List.filter_eq_nil_iff,List.all_eq_true]
  exact⟨fun h x hx=>by have:=h x hx;simpa using this,fun h x hx=>by rw[h x hx];decide⟩
section
variable {c:Nat} {l:List (Str × Nat)} {gs:List Gt} {os:List (Str × List Nat)} {S:aH} {safe:Bool} {m:Nat}
theorem wI{δ:aw}(hg:gs.length < 1000)(h1:ah 3 δ= .ok (bH l gs os)):eK (eL (e2 c0 (ah 3) (eC (.int 1)))) (gz 2 (cI (bb 0) (cI (bb 1) gx))) (nA (lu (e2 c0 (ah 1) (eC (.int 2))))) (ah 0) [(Str.ofString "place"),(Str.ofString "gate")] [] δ= .ok ((eo gs).map nI):=by
 have h:=tY (ins:=l) (os:=os) (δ:=[.un, .val (bH l gs os)]) hg rfl
 unfold eK at h ⊢
 have e:eL (e2 c0 (ah 3) (eC (.int 1))) δ=eL (e2 c0 (ah 1) (eC (.int 1))) [.un, .val (bH l gs os)]:=by
  unfold eL e2
  rw[h1];rfl
 rw[e]
 exact h
noncomputable def LE(sc:D)(n:Nat)(net:D)(mm lv fr se:D)(a8 a9 a10 a11 a12 a13 a14:Option V3):DE:=[some (.d sc),some (.lst ((List.range n).map .loc)),some (.loc 0),some (.d net),some (.d mm),some (.d lv),some (.d fr),some (.d se),a8,a9,a10,a11,a12,a13,a14]
theorem y6{sc:D}{n:Nat}{F:List (List Nat)}{T:List Nat}{a9 a10 a11 a12 a13 a14:Option V3}(NO:jb l gs os)(hc:l.length=c)(hc1:c≤6)(ho:∀x∈os,1≤x.2.length∧x.2.length≤3)(hsd:∀x∈os,∀p,(pt (Wd c l gs [] []) x p).2=!(pt (Wd c l gs [] []) x p).1)(hm:m≤12)(hS:nD S)(hT:T∈wb safe c l gs os m) :
 W3 (rG (LE sc n (bH l gs os) (nI m) (.str (iC safe)) (.lst ((eo gs).map nI)) (.lst (F.map bw)) (some (.d (bw T))) a9 a10 a11 a12 a13 a14) S) fun o S2=>∃δ2,o= .nx δ2∧S2=S∧∃b9,δ2=LE sc n (bH l gs os) (nI m) (.str (iC safe)) (.lst ((eo gs).map nI)) (.lst (F.map bw)) (some (.d (bw T))) b9 a10 a11 a12 a13 a14:=by
 have hz:sizeLine=16777216:=sizeLine_eq
 obtain⟨h1,h2,h3,h4⟩:=tj hT
 have hTl:T.length < 1000:=by omega
 unfold rG LE
 refine aT <| mF <| rH (b:=false) (Fz (a:=false) (b:=false) ?_ ?_) ?_
 ·refine eJ (a:=nI T.length) (b:=nI m) (aN (ds:=[bw T]) rfl (by show R.ok (D.int ((T.map nI).length:Nat))=_;rw [List.length_map];rfl)) rfl ?_
  show R.ok (D.bl (decide ((T.length:Int) > (m:Int))))=_
  rw[decide_eq_false (by omega)]
 ·refine eJ (a:= .lst (([]:List Nat).map nI)) (b:= .lst []) (dW (d7 (ds:=T.map nI) (k_ rfl) (by rw[List.length_map];omega) ?_)) rfl (Fs (DY []))
  have:=NT.gZ (t:=bb 0) (c:=b2 fG (ah 0) (ah 1)) (f:=ah 0) (δ:=[.un, .val (.lst ((eo gs).map nI))]) (fun x=>!(eo gs).contains x) nI nI (xs:=T) fun x _=>⟨[.val (nI x), .val (.lst ((eo gs).map nI))],rfl,eJ (a:=nI x) (b:= .lst ((eo gs).map nI)) rfl rfl (tI (Gv x _)),fun _=>rfl⟩
  have hf:T.filter (fun x=>!(eo gs).contains x)=[]:=List.filter_eq_nil_iff.mpr fun x hx=>by
   have:=h1.subset hx
   simp [this]
  rw[hf] at this
  exact this
 rw[if_neg (by decide)]
 refine fT ⟨_,rfl,?_⟩
 refine aT <| mF <| w_not <| zU <| cV <| ax <| cB (d:=bH l gs os) rfl <| ax <| cB (d:=bw T) rfl <| ax <| cB (d:= .str (iC safe)) rfl <| cf <| ni NO hc hc1 ho hsd hS ⟨_,true,rfl,by rw[h3];rfl,?_⟩
 rw[if_neg (by decide)]
 refine fT ⟨_,rfl,?_⟩
 refine fS <| lY (ds:=T.map nI) (k_ rfl) ?_
 refine(cu (fun i δ S2=>S2=S∧∃b9,δ=LE sc n (bH l gs os) (nI m) (.str (iC safe)) (.lst ((eo gs).map nI)) (.lst (F.map bw)) (some (.d (bw T))) b9 a10 a11 a12 a13 a14)
  ⟨rfl,_,rfl⟩ ?_).mono fun o S2 ⟨δ2,e2',hS2,b9,hδ⟩=>⟨δ2,e2',hS2,b9,hδ⟩
 rintro i v δ S2 hv ⟨rfl,b9,rfl⟩
 obtain⟨x,hx,rfl⟩:=NT.j1 hv
 refine⟨LE sc n (bH l gs os) (nI m) (.str (iC safe)) (.lst ((eo gs).map nI)) (.lst (F.map bw)) (some (.d (bw T))) (some (.d (nI x))) a10 a11 a12 a13 a14,rfl,?_⟩
 unfold xA LE
 have hsub:(T.filter fun y=>!(y==x)).Sublist T:=List.filter_sublist
 have hlt:(T.filter fun y=>!(y==x)).length < T.length:=by
  refine Nat.lt_of_le_of_ne hsub.length_le fun e=>?_
  have e2:=hsub.eq_of_length e
  have hxm:=List.mem_of_getElem? hx
  rw[←e2] at hxm
  have:=(List.mem_filter.mp hxm).2
  simp at this
 refine mF <| zU <| cV <| ax <| cB (d:=bH l gs os) rfl <| ax <| cB (d:=bw (T.filter fun y=>!(y==x))) (aN (ds:=[.lst ((T.filter fun y=>!(y==x)).map nI)]) (aR (dW (d7 (ds:=T.map nI) (k_ rfl) (by rw[List.length_map];omega) (NT.gZ (fun y=>!(y==x)) nI nI fun y _=>⟨[.val (nI y), .val (nI x)],rfl,eJ (a:=nI y) (b:=nI x) rfl rfl ?_,fun _=>rfl⟩))) rfl) rfl) <| ax <| cB (d:= .str (iC safe)) rfl <| cf <| ni NO hc hc1 ho hsd hS ⟨_,false,rfl,by rw[h4 _ hsub hlt];rfl,?_⟩
 ·show R.ok (D.bl (!((y:Int)==(x:Int))))=_
  congr 3
  rw[Bool.eq_iff_iff,beq_iff_eq,beq_iff_eq]
  omega
 rw[if_neg (by decide)]
 exact fT ⟨_,rfl,rfl,_,rfl⟩
theorem BQ{free D L:List Nat}(hs:free.Pairwise (· < ·))(hp:(L++D).Perm free):nM (nZ D)=nZ (free.filter fun x=>D.contains x)∧(free.filter fun x=>D.contains x).length=D.length∧∀x,x∈free.filter (fun x=>D.contains x)↔x∈D:=by
 have hnf:free.Nodup:=hs.imp fun h=>Nat.ne_of_lt h
 have hnd:D.Nodup:=(List.nodup_append.mp ((hp.nodup_iff).mpr hnf)).2.1
 have hmem:∀x,x∈free.filter (fun x=>D.contains x)↔x∈D:=fun x=>by
  rw[List.mem_filter]
  constructor
  ·intro h;simpa using h.2
  ·intro h;exact⟨hp.mem_iff.mp (List.mem_append_right _ h),by simpa using h⟩
 have hperm:(free.filter fun x=>D.contains x).Perm D:=(List.perm_ext_iff_of_nodup (hnf.filter _) hnd).mpr hmem
 refine⟨(uZ (a:=nZ (free.filter fun x=>D.contains x)) (hperm.map _) ?_).symm,hperm.length_eq,hmem⟩
 unfold nZ
 rw[List.pairwise_map]
 exact(hs.filter _).imp fun h=>by omega
theorem sorted_N(E:List Nat)(h:E.length < 64):oy [.lst (E.map nI)]= .ok (.lst ((nM (nZ E)).map .int)):=by
 rw[←yk]
 show(match ints? ((nZ E).map D.int) with | some ns=>R.bE (decide (ns.length < 64)) (.ok (D.lst ((nM ns).map .int))) | none=> .no)=_
 rw[L2.ints_map]
 exact cb _ (by unfold nZ;rw [List.length_map];exact h)
theorem qB{α β:Type}(f:α→β):∀(l:List α) (p:Nat),(l.map f).eraseIdx p=(l.eraseIdx p).map f
 | [],_=>rfl
 | x ::l,0=>rfl
 | x ::l,p+1=>by show f x ::(l.map f).eraseIdx p=_;rw [qB f l p];rfl
theorem qa{α:Type}:∀(l:List α) (p:Nat) {x:α},l[p]? =some x→(x ::l.eraseIdx p).Perm l
 | [],p,x,h=>by simp at h
 | y ::l,0,x,h=>by cases h;exact List.Perm.refl _
 | y ::l,p+1,x,h=>by
   show(x ::y ::l.eraseIdx p).Perm (y ::l)
   exact(List.Perm.swap y x _).trans ((qa l p h).cons y)
theorem AH{sc:D}{n k i:Nat}{se:D}{a8 a9 a14:Option V3}{S S1:aH}{L D:List Nat}(hk:k < S.length)(hL:0 < L.length)(hLl:L.length < 100)(hD:D.length < 100)(v:Ev k S S1) :
 W3 (sS (LE sc n (bH l gs os) (nI m) (.str (iC safe)) (.lst ((eo gs).map nI)) se a8 a9 (some (.loc k)) (some (.loc S.length)) (some (.loc (S.length+1))) (some (.d (.int i))) a14) (S1++[.lst (L.map nI), .lst (D.map nI)])) fun o S2=>∃δ2,o= .nx δ2∧δ2=LE sc n (bH l gs os) (nI m) (.str (iC safe)) (.lst ((eo gs).map nI)) se a8 a9 (some (.loc k)) (some (.loc S.length)) (some (.loc (S.length+1))) (some (.d (.int i))) a14∧∃(S3:aH) (x:Nat) (p:Nat),L[p]? =some x∧Ev k S S3∧S2=S3++[.lst ((L.eraseIdx p).map nI), .lst ((D++[x]).map nI)]:=by
 have hz:sizeLine=16777216:=sizeLine_eq
 have ha:∀{T:aH} {x y:SO},T.length=S.length→(T++[x,y])[S.length]? =some x:=fun h=>by rw[←h];exact g1
 have hb:∀{T:aH} {x y:SO},T.length=S.length→(T++[x,y])[S.length+1]? =some y:=fun h=>by rw[←h];exact g2
 have sa:∀{T:aH} {x y z:SO},T.length=S.length→(T++[x,y]).set S.length z=T++[z,y]:=fun h=>by rw[←h];exact s1
 have sb:∀{T:aH} {x y z:SO},T.length=S.length→(T++[x,y]).set (S.length+1) z=T++[x,z]:=fun h=>by rw[←h];exact s2
 have lv:=v.len
 unfold sS LE
 refine kU (k:=S.length+1) rfl ⟨_,hb lv⟩ <| Hw (k:=S.length) rfl ⟨_,ha lv⟩ <| xg (k:=k) (m:=(L.length:Int)) rfl (v.p.app (j8 _ _)) (aN (ds:=[.lst (L.map nI)]) (aR (oR rfl (eU (ha lv))) rfl) (by rw[n3,List.length_map])) (by omega) (by omega) fun r S2 h1 h2 v2=>?_
 obtain⟨S3,rfl,v3⟩:=v2.split (by omega)
 obtain⟨p,rfl⟩:=Int.eq_ofNat_of_zero_le h1
 have v3':=v.trans v3
 have hp:p < L.length:=by omega
 have hpx:L[p]? =some L[p]:=List.getElem?_eq_getElem hp
 refine⟨p,nI L[p],L.map nI,rfl,by omega,ha v3'.len,by rw[List.getElem?_map,hpx];rfl,?_⟩
 rw[sa v3'.len]
 refine⟨_,_,rfl,hb v3'.len,by rw[List.length_map];omega,_,rfl,rfl,S3,L[p],p,hpx,v3',?_⟩
 rw[sb v3'.len,List.map_append,qB];rfl
theorem wj{sc:D}{n k:Nat}{F:List (List Nat)}{a8 a9 a11 a12 a13 a14:Option V3}{S:aH}(NO:jb l gs os)(hc:l.length=c)(hc1:c≤6)(ho:∀x∈os,1≤x.2.length∧x.2.length≤3)(hsd:∀x∈os,∀p,(pt (Wd c l gs [] []) x p).2=!(pt (Wd c l gs [] []) x p).1)(hg:gs.length≤12)(hm:m≤3)(hp:sU k S)(hF:F=wb safe c l gs os m) :
 W3 (rE (LE sc n (bH l gs os) (nI m) (.str (iC safe)) (.lst ((eo gs).map nI)) (.lst (F.map bw)) a8 a9 (some (.loc k)) a11 a12 a13 a14) S) fun o S2=>∃δ2,o= .nx δ2∧(∃b11 b12 b13 b14,δ2=LE sc n (bH l gs os) (nI m) (.str (iC safe)) (.lst ((eo gs).map nI)) (.lst (F.map bw)) a8 a9 (some (.loc k)) b11 b12 b13 b14)∧∃S3 X,Ev k S S3∧Flat X∧S2=S3++X:=by
 have hz:sizeLine=16777216:=sizeLine_eq
 have hk:=hp.lt
 have hul:(eo gs).length≤12:=Nat.le_trans w9 hg
 have ha:∀{T:aH} {x y:SO},T.length=S.length→(T++[x,y])[S.length]? =some x:=fun h=>by rw[←h];exact g1
 have hb:∀{T:aH} {x y:SO},T.length=S.length→(T++[x,y])[S.length+1]? =some y:=fun h=>by rw[←h];exact g2
 have hsm:∀o∈F,o.length < 1000:=by rw[hF];exact oK (u_ (by omega))
 have hfl:F.length≤16384:=by
  rw[hF]
  have h1:=pW (BT safe c l gs os) (j5 (eo gs) m) []
  have h2:=pU (free:=eo gs) hul m
  have h3:(m+1)*4096≤4*4096:=Nat.mul_le_mul_right _ (by omega)
  unfold wb nY
  simp only[List.length_nil] at h1
  omega
 unfold rE LE
 refine aT <| bF (by simp only[List.length_cons,List.length_nil,List.length_set];omega) <| i7 (ds:=(eo gs).map nI) rfl ⟨_,rfl,?_⟩
 simp only[List.set_cons_succ,List.set_cons_zero]
 refine aT <| bF (by simp only[List.length_cons,List.length_nil,List.length_set];omega) <| i7 (ds:=[]) rfl ⟨_,rfl,?_⟩
 simp only[List.set_cons_succ,List.set_cons_zero]
 rw[List.length_append,List.append_assoc]
 show W3 (bu _ _ (LE sc n (bH l gs os) (nI m) (.str (iC safe)) (.lst ((eo gs).map nI)) (.lst (F.map bw)) a8 a9 (some (.loc k)) (some (.loc S.length)) (some (.loc (S.length+1))) a13 a14) (S++[SO.lst ((eo gs).map nI),SO.lst (([]:List Nat).map nI)])) _
 refine aT <| fS <| oT <| oA <| ax <| draw (k:=k) (i:=10) (m:=((m+1:Nat):Int)) rfl (hp.app (j8 _ _)) (aJ (a:=nI m) (b:= .int 1) rfl rfl rfl) (by omega) (by omega) fun r S2 h1 h2 v2=>ax <| cB (d:=nI (eo gs).length) (aN (ds:=[.lst ((eo gs).map nI)]) rfl (by rw[n3,List.length_map];rfl)) <| cf ?_
 obtain⟨S3,rfl,v3⟩:=v2.split hk
 obtain⟨q,rfl⟩:=Int.eq_ofNat_of_zero_le h1
 refine⟨[.int q,nI (eo gs).length], .int ((min q (eo gs).length:Nat):Int),rfl,?_,min q (eo gs).length,rfl,by omega,?_⟩
 ·show R.ok (D.int (if((eo gs).length:Int) < (q:Int) then((eo gs).length:Int) else(q:Int)))=_
  congr 2
  split <;> omega
 refine(cu (fun i δ S4=>(∃a13,δ=LE sc n (bH l gs os) (nI m) (.str (iC safe)) (.lst ((eo gs).map nI)) (.lst (F.map bw)) a8 a9 (some (.loc k)) (some (.loc S.length)) (some (.loc (S.length+1))) a13 a14)∧∃(L D:List Nat) (S5:aH),D.length=i∧(L++D).Perm (eo gs)∧Ev k S S5∧S4=S5++[SO.lst (L.map nI),SO.lst (D.map nI)])
  ⟨⟨_,rfl⟩,eo gs,[],S3,rfl,by rw[List.append_nil],v3,rfl⟩ ?_).mono fun o S4 ⟨δ4,e4,⟨b13,hδ⟩,L,D,S5,hDl,hperm,v5,hS4⟩=>⟨δ4,e4,?_⟩
 ·rintro i v δ S4 hv ⟨⟨b13,rfl⟩,L,D,S5,hDl,hperm,v5,rfl⟩
  obtain⟨hi,rfl⟩:=NT.jX hv
  have hll:=hperm.length_eq
  rw[List.length_append] at hll
  refine⟨LE sc n (bH l gs os) (nI m) (.str (iC safe)) (.lst ((eo gs).map nI)) (.lst (F.map bw)) a8 a9 (some (.loc k)) (some (.loc S.length)) (some (.loc (S.length+1))) (some (.d (.int i))) a14,rfl,?_⟩
  refine(AH hk (by omega) (by omega) (by omega) v5).mono fun o S6 ⟨δ6,e6,hδ6,S7,x,p,hpx,v7,hS6⟩=>⟨δ6,e6,⟨_,hδ6⟩,L.eraseIdx p,D++[x],S7,by simp [hDl],?_,v7,hS6⟩
  refine List.Perm.trans ?_ hperm
  have h3:(x ::L.eraseIdx p).Perm L:=qa L p hpx
  have h4:(L.eraseIdx p++(D++[x])).Perm (x ::L.eraseIdx p++D):=by
   rw[←List.append_assoc]
   exact List.perm_append_singleton x _
  exact h4.trans (h3.append_right D)
 subst hδ hS4
 rw[NT.g_] at hDl
 have l5:=v5.len
 have hcl5:nD (S5++[SO.lst (L.map nI),SO.lst (D.map nI)]):=(v5.p.app (j8 _ _)).1.JJ
 have hg5:=hb (x:=SO.lst (L.map nI)) (y:=SO.lst (D.map nI)) l5
 unfold LE
 refine aT <| bF (by simp only[List.length_cons,List.length_nil,List.length_set];omega) <| l7 (fun j ds S6=>S6=S5++[SO.lst (L.map nI),SO.lst (D.map nI)]∧ds=((F.take j).filter (subB D)).map bw) (lY (ds:=F.map bw) (kr rfl) ⟨by rw[List.length_map,List.length_map];omega,⟨rfl,by simp⟩,?_,?_⟩)
 ·rintro j v ds S6 hv ⟨rfl,rfl⟩
  obtain⟨o,hoj,rfl⟩:=NT.j1 hv
  refine⟨[some (.d (bw o)),some (.loc (S.length+1))],rfl,CK (b:=subB D o) ?_ ?_⟩
  ·have hT:cD (S5++[SO.lst (L.map nI),SO.lst (D.map nI)]) [some (.d (bw o)),some (.loc (S.length+1))]=[.val (bw o), .val (.lst (D.map nI))]:=by
    simp only[cD,List.map_cons,List.map_nil,eU hg5]
    rfl
   rw[hT]
   exact yu (hsm o (List.mem_of_getElem? hoj)) rfl rfl
  ·rw[List.take_add_one,hoj,List.filter_append]
   cases hs:subB D o with
   | true=>
     rw[if_pos rfl]
     exact cB (d:=bw o) rfl ⟨_,rfl,rfl,by simp [hs]⟩
   | false=>
     rw[if_neg (by decide)]
     exact⟨rfl,by simp [hs]⟩
 ·rintro ds S6 ⟨rfl,rfl⟩
  rw[List.length_map,List.length_map,List.take_length]
  refine⟨_,rfl,?_⟩
  simp only[List.set_cons_succ,List.set_cons_zero]
  have hDm:D.length≤m:=by omega
  obtain⟨hso,hsl,hsm'⟩:=BQ (vj gs) hperm
  refine mF <| zD <| rH (b:=(F.filter (subB D)).isEmpty) (eJ (a:= .lst ((F.filter (subB D)).map bw)) (b:= .lst []) rfl rfl (zV (Gz _))) ?_
  cases hemp:(F.filter (subB D)).isEmpty with
  | false=>exact .inl ⟨rfl,by rw[if_neg (by decide)];exact fT ⟨_,rfl,⟨_,_,_,_,rfl⟩,S5,_,v5,j8 _ _,rfl⟩⟩
  | true=>
    have hBf:BT safe c l gs os ((eo gs).filter fun x=>D.contains x)=false:=by
     cases hBB:BT safe c l gs os ((eo gs).filter fun x=>D.contains x) with
     | false=>rfl
     | true=>
       obtain⟨o,hoF,hoD⟩:=yU (m:=m) (List.filter_sublist (p:=fun x=>D.contains x) (l:=eo gs)) (by omega) hBB
       have hof:o∈F.filter (subB D):=List.mem_filter.mpr ⟨by rw[hF];exact hoF,o3.mpr fun x hx=>(hsm' x).mp (hoD x hx)⟩
       rw[List.isEmpty_iff.mp hemp] at hof
       cases hof
    refine .inr ⟨rfl,zU <| cV <| ax <| cB (d:=bH l gs os) rfl <| ax <| xp (d:=bw ((eo gs).filter fun x=>D.contains x)) ?_ (zp _) <| ax <| cB (d:= .str (iC safe)) rfl <| cf <| ni NO hc hc1 ho hsd hcl5 ⟨_,false,rfl,by rw[hBf];rfl,?_⟩⟩
    ·refine aN (ds:=[.lst ((nM (nZ D)).map .int)]) (aR (aN (ds:=[.lst (D.map nI)]) (aR (oR rfl (eU hg5)) rfl) (sorted_N D (by omega))) rfl) ?_
     rw[hso,yk];rfl
    ·rw[if_neg (by decide)]
     exact fT ⟨_,rfl,⟨_,_,_,_,rfl⟩,S5,_,v5,j8 _ _,rfl⟩
end
end K26
end
section
set_option maxRecDepth 100000
set_option maxHeartbeats 4000000
namespace K26
open PySem PySem.Spec PyProof.Rows L2 L3 MT
theorem AM(ns:List Int)(hn:ns.length≤63):xV [.lst (ns.map D.int)]= .ok (.bl true):=by
 have hz:sizeLine=16777216:=sizeLine_eq
 have key:W3 (mP jZ qV [.d (.lst (ns.map .int))] []) fun v S1=>v= .d (.bl true)∧S1=[]:=by
  refine qS (tT rfl ?_)
  simp only[bM,jZ,List.map_cons,List.map_nil,List.length_cons,List.length_nil,List.replicate,List.cons_append,List.nil_append,Nat.reduceAdd,Nat.reduceSub]
  unfold qV
  refine aT <| bF (by simp only[List.length_cons,List.length_nil,List.length_set];omega) <| cV <| ax <| cB (d:= .lst ((ns.take 21).map .int)) ?_ <| cf <| Dq _ ?_ fun n S1 hn0 hP=>⟨_,rfl,?_⟩
  ·refine sG (d:= .lst (ns.map .int)) (lo:=none) (hi:=some 21) rfl rfl rfl ?_
   show R.ok (D.lst (L2.cutD _ none (some 21)))=_
   rw[wc _ (by omega),List.map_take]
   rfl
  ·rw[List.length_take];omega
  simp only[List.set_cons_succ,List.set_cons_zero]
  refine aT <| bF (by simp only[List.length_cons,List.length_nil,List.length_set];omega) <| Ht <| w_var (v:= .lst ((List.range n).map .loc)) rfl <| cB (d:= .int 0) rfl ⟨_,_, .loc 0,rfl,rfl,NT.uM (z:=0) (by rw[List.getElem?_map,List.getElem?_range hn0];rfl),_,rfl,?_⟩
  simp only[List.set_cons_succ,List.set_cons_zero]
  have p0:=hP.2.2 0 hn0
  refine aT <| bF (by simp only[List.length_cons,List.length_nil,List.length_set];omega) <| cV <| ax <| w_var (v:= .loc 0) rfl <| ax <| cB (d:= .int 3) rfl <| ax <| cB (d:= .int 7) rfl <| ax <| cB (d:= .int 3) rfl <| cf <| uU p0 ⟨by omega,by omega⟩ ⟨by omega,by omega⟩ fun l gs os S2 hl1 hl6 hgl hD v2=>⟨_,rfl,?_⟩
  simp only[List.set_cons_succ,List.set_cons_zero]
  refine aT <| bF (by simp only[List.length_cons,List.length_nil,List.length_set];omega) <| draw (k:=0) rfl v2.p rfl (by omega) (by omega) fun r S3 h1 h2 v3=>⟨_,rfl,?_⟩
  simp only[List.set_cons_succ,List.set_cons_zero]
  obtain⟨m,rfl⟩:=Int.eq_ofNat_of_zero_le h1
  refine aT <| bF (by simp only[List.length_cons,List.length_nil,List.length_set];omega) <| ET <| cB (d:= .lst [.str (Str.ofString "right"), .str (Str.ofString "safe")]) rfl <| draw (k:=0) rfl v3.p rfl (by omega) (by omega) fun r3 S4 h3 h4 v4=>?_
  obtain⟨safe,es⟩:∃safe,c0 (.lst [.str (Str.ofString "right"), .str (Str.ofString "safe")]) (.int r3)= .ok (.str (iC safe)):=by
   have:r3=0∨r3=1:=by omega
   rcases this with rfl | rfl
   ·exact⟨false,rfl⟩
   ·exact⟨true,rfl⟩
  refine⟨_,_,_,rfl,rfl,es,_,rfl,?_⟩
  simp only[List.set_cons_succ,List.set_cons_zero]
  have hP4:ym n S4:=((hP.ev hn0 v2).ev hn0 v3).ev hn0 v4
  have hcl:nD S4:=hP4.1.JJ
  generalize hc:l.length=c at hl1 hl6
  have NO:=hD.no (by omega) (by omega)
  have hgl':gs.length≤12:=by omega
  refine aT <| bF (by simp only[List.length_cons,List.length_nil,List.length_set];omega) <| cB (d:= .lst ((eo gs).map nI)) (dW (wI NO.hg rfl)) ⟨_,rfl,?_⟩
  simp only[List.set_cons_succ,List.set_cons_zero]
  refine aT <| bF (by simp only[List.length_cons,List.length_nil,List.length_set];omega) <| cV <| ax <| cB (d:=bH l gs os) rfl <| ax <| cB (d:=nI m) rfl <| ax <| cB (d:= .str (iC safe)) rfl <| cf <| wA NO hc (by omega) hD.w3 hgl' (by omega) hcl ⟨_,rfl,?_⟩
  simp only[List.set_cons_succ,List.set_cons_zero]
  generalize hF:wb safe c l gs os m=F
  show W3 (bu _ _ (LE (.lst (ns.map .int)) n (bH l gs os) (nI m) (.str (iC safe)) (.lst ((eo gs).map nI)) (.lst (F.map bw)) none none none none none none none) S4) _
  refine aT <| fS <| lY (ds:=(F.take 12).map bw) (kr (sG (d:= .lst (F.map bw)) (lo:=none) (hi:=some 12) rfl rfl rfl ?_)) ?_
  ·show R.ok (D.lst (L2.cutD _ none (some 12)))=_
   rw[wc _ (by omega),List.map_take]
   rfl
  refine(cu (fun i δ S5=>S5=S4∧∃a8 a9,δ=LE (.lst (ns.map .int)) n (bH l gs os) (nI m) (.str (iC safe)) (.lst ((eo gs).map nI)) (.lst (F.map bw)) a8 a9 none none none none none)
   ⟨rfl,_,_,rfl⟩ ?_).mono fun o S5 ⟨δ5,e5,hS5,a8,a9,hδ⟩=>⟨δ5,e5,?_⟩
  ·rintro i v δ S5 hv ⟨rfl,a8,a9,rfl⟩
   obtain⟨T,hT,rfl⟩:=NT.j1 hv
   have hTF:T∈wb safe c l gs os m:=by rw[hF];exact List.mem_of_mem_take (List.mem_of_getElem? hT)
   refine⟨LE (.lst (ns.map .int)) n (bH l gs os) (nI m) (.str (iC safe)) (.lst ((eo gs).map nI)) (.lst (F.map bw)) (some (.d (bw T))) a9 none none none none none,rfl,?_⟩
   exact(y6 NO hc (by omega) hD.w3 (hD.sd hc) (by omega) hcl hTF).mono fun o S6 ⟨δ6,e6,hS6,b9,hδ6⟩=>⟨δ6,e6,hS6,_,b9,hδ6⟩
  subst hδ hS5
  have hcut:L2.cutD ((List.range n).map V3.loc) (some 1) none=((List.range n).drop 1).map V3.loc:=by
   rw[Ao _ (by omega),List.map_drop];rfl
  refine aT <| fS <| CL <| Hn <| w_var (v:= .lst ((List.range n).map .loc)) rfl <| Ir <| cB (d:= .int 1) rfl ⟨1,rfl,I_ ⟨_,rfl,_,rfl,?_⟩⟩
  rw[hcut]
  refine(cu (fun i δ S6=>(∃a8 a9 a10 a11 a12 a13 a14,δ=LE (.lst (ns.map .int)) n (bH l gs os) (nI m) (.str (iC safe)) (.lst ((eo gs).map nI)) (.lst (F.map bw)) a8 a9 a10 a11 a12 a13 a14)∧∃S7 U,ym n S7∧Flat U∧S6=S7++U)
   ⟨⟨_,_,_,_,_,_,_,rfl⟩,S5,[],hP4,Flat.nil,by simp⟩ ?_).mono fun o S6 ⟨δ6,e6,⟨b8,b9,b10,b11,b12,b13,b14,hδ⟩,S7,U,hP7,hU,hS6⟩=>⟨δ6,e6,?_⟩
  ·rintro i v δ S6 hv ⟨⟨b8,b9,b10,b11,b12,b13,b14,rfl⟩,S7,U,hP7,hU,rfl⟩
   obtain⟨k,hk,rfl⟩:=List.mem_map.mp (List.mem_of_getElem? hv)
   have hk:=List.mem_range.mp (List.mem_of_mem_drop hk)
   refine⟨LE (.lst (ns.map .int)) n (bH l gs os) (nI m) (.str (iC safe)) (.lst ((eo gs).map nI)) (.lst (F.map bw)) b8 b9 (some (.loc k)) b11 b12 b13 b14,rfl,?_⟩
   refine(wj (k:=k) NO hc (by omega) hD.w3 (hD.sd hc) hgl' (by omega) ((hP7.2.2 k hk).app hU) hF.symm).mono fun o S8 ⟨δ8,e8,⟨c11,c12,c13,c14,hδ8⟩,S9,X,v9,hX,hS8⟩=>⟨δ8,e8,⟨_,_,_,_,_,_,_,hδ8⟩,?_⟩
   obtain⟨S10,rfl,v10⟩:=v9.split (by rw[hP7.2.1];exact hk)
   exact⟨S10,U++X,hP7.ev hk v10,fun o ho=>(List.mem_append.mp ho).elim (hU o) (hX o),by rw[hS8,List.append_assoc]⟩
  ·subst hδ hS6
   refine fq (cB (d:= .bl true) rfl ⟨_,rfl,fun o ho=>(List.mem_append.mp ho).elim (hP7.1 o) (hU o),by unfold fw;rfl, .bl true,by unfold res;rfl,rfl,?_⟩)
   rfl
 obtain⟨v,S1,e,rfl,rfl⟩:=key
 unfold xV HS
 simp only[List.map_cons,List.map_nil]
 rw[e]
 rfl
end K26
end
open PySem PySem.W PyProof.Rows
set_option maxRecDepth 100000 in
set_option maxHeartbeats 0 in
theorem PySem.Challenge.cw_bearfaults_k26_whole_breaking_by_runs_holds : PySem.Challenge.rw_bearfaults_k26_whole_breaking_by_runs.Holds := by
 w_on;o_law;k_head;(case hw=>w_witness2)
 k_fill
 refine L2.Hd (l:=PySem.Challenge.rw_bearfaults_k26_whole_breaking_by_runs) (n:=63) (k:=9) (x:=Str.ofString "script") (g:=K26.xV) rfl (by decide) rfl ⟨rfl,by decide,by decide⟩ (fun w h Y=>PySem.W.kIn_of Y) ?F K26.AM
 case F=>
  intro w mg fa h KX G hmg
  have D_vote_of:L2.Def (L2.fR KX) mg (Str.ofString "vote_of") K26.eA:=by
   dsimp only[L2.fR]
   refine' L2.cC KX G ?a ?l ?c ?k
   (case a=>k_is);(case l=>k_is);(case c=>k_is);(case k=>k_is)
  have D_gate_mask:L2.Def (L2.fR KX) mg (Str.ofString "gate_mask") K26.c_:=by
   dsimp only[L2.fR]
   refine' L2.cC KX G ?a ?l ?c ?k
   (case a=>k_is);(case l=>k_is);(case c=>k_is);(case k=>k_is)
  have D_in_wire_masks:L2.Def (L2.fR KX) mg (Str.ofString "in_wire_masks") K26.bS:=by
   dsimp only[L2.fR]
   refine' L2.cC KX G ?a ?l ?c ?k
   (case a=>k_is);(case l=>k_is);(case c=>k_is);(case k=>k_is)
  have D_masks_at:L2.Def (L2.fR KX) mg (Str.ofString "masks_at") K26.dH:=by
   dsimp only[L2.fR]
   refine' L2.cC KX G ?a ?l ?c ?k
   (case a=>k_is);(case l=>k_is);(case c=>k_is);(case k=>k_is)
  have D_wire_masks:L2.Def (L2.fR KX) mg (Str.ofString "wire_masks") K26.cP:=by
   dsimp only[L2.fR]
   refine' L2.cC KX G ?a ?l ?c ?k
   (case a=>k_is);(case l=>k_is);(case c=>k_is);(case k=>k_is)
  have D_out_masks:L2.Def (L2.fR KX) mg (Str.ofString "out_masks") K26.de:=by
   dsimp only[L2.fR]
   refine' L2.cC KX G ?a ?l ?c ?k
   (case a=>k_is);(case l=>k_is);(case c=>k_is);(case k=>k_is)
  have D_run:L2.Def (L2.fR KX) mg (Str.ofString "run") K26.l8:=by
   dsimp only[L2.fR]
   refine' L2.cC KX G ?a ?l ?c ?k
   (case a=>k_is);(case l=>k_is);(case c=>k_is);(case k=>k_is)
  have D_reading:L2.Def (L2.fR KX) mg (Str.ofString "reading") K26.eu:=by
   dsimp only[L2.fR]
   refine' L2.cC KX G ?a ?l ?c ?k
   (case a=>k_is);(case l=>k_is);(case c=>k_is);(case k=>k_is)
  have D_bit_at:L2.Def (L2.fR KX) mg (Str.ofString "bit_at") K26.fN:=by
   dsimp only[L2.fR]
   refine' L2.cC KX G ?a ?l ?c ?k
   (case a=>k_is);(case l=>k_is);(case c=>k_is);(case k=>k_is)
  have D_read_at:L2.Def (L2.fR KX) mg (Str.ofString "read_at") K26.et:=by
   dsimp only[L2.fR]
   refine' L2.cC KX G ?a ?l ?c ?k
   (case a=>k_is);(case l=>k_is);(case c=>k_is);(case k=>k_is)
  have D_told:L2.Def (L2.fR KX) mg (Str.ofString "told") K26.jC:=by
   dsimp only[L2.fR]
   refine' L2.cC KX G ?a ?l ?c ?k
   (case a=>k_is);(case l=>k_is);(case c=>k_is);(case k=>k_is)
  have D_all_inputs:L2.Def (L2.fR KX) mg (Str.ofString "all_inputs") K26.cL:=by
   dsimp only[L2.fR]
   refine' L2.cC KX G ?a ?l ?c ?k
   (case a=>k_is);(case l=>k_is);(case c=>k_is);(case k=>k_is)
  have D_mask_of:L2.Def (L2.fR KX) mg (Str.ofString "mask_of") K26.eD:=by
   dsimp only[L2.fR]
   refine' L2.cC KX G ?a ?l ?c ?k
   (case a=>k_is);(case l=>k_is);(case c=>k_is);(case k=>k_is)
  have D_in_mask:L2.Def (L2.fR KX) mg (Str.ofString "in_mask") K26.eF:=by
   dsimp only[L2.fR]
   refine' L2.cC KX G ?a ?l ?c ?k
   (case a=>k_is);(case l=>k_is);(case c=>k_is);(case k=>k_is)
  have D_choices:L2.Def (L2.fR KX) mg (Str.ofString "choices") K26.eG:=by
   dsimp only[L2.fR]
   refine' L2.cC KX G ?a ?l ?c ?k
   (case a=>k_is);(case l=>k_is);(case c=>k_is);(case k=>k_is)
  have D_has_all:L2.Def (L2.fR KX) mg (Str.ofString "has_all") K26.er:=by
   dsimp only[L2.fR]
   refine' L2.cC KX G ?a ?l ?c ?k
   (case a=>k_is);(case l=>k_is);(case c=>k_is);(case k=>k_is)
  have D_breaking:L2.Def (L2.fR KX) mg (Str.ofString "breaking") K26.dE:=by
   dsimp only[L2.fR]
   refine' L2.cC KX G ?a ?l ?c ?k
   (case a=>k_is);(case l=>k_is);(case c=>k_is);(case k=>k_is)
  have D_law_next:L2.Def (L2.fR KX) mg (Str.ofString "_law_next") K26.dF:=by
   dsimp only[L2.fR]
   refine' L2.cC KX G ?a ?l ?c ?k
   (case a=>k_is);(case l=>k_is);(case c=>k_is);(case k=>k_is)
  have D_law_pots:L2.Def (L2.fR KX) mg (Str.ofString "_law_pots") K26.dD:=by
   dsimp only[L2.fR]
   refine' L2.cC KX G ?a ?l ?c ?k
   (case a=>k_is);(case l=>k_is);(case c=>k_is);(case k=>k_is)
  have D_law_some_ins:L2.Def (L2.fR KX) mg (Str.ofString "_law_some_ins") K26.cg:=by
   dsimp only[L2.fR]
   refine' L2.cC KX G ?a ?l ?c ?k
   (case a=>k_is);(case l=>k_is);(case c=>k_is);(case k=>k_is)
  have D_law_gate:L2.Def (L2.fR KX) mg (Str.ofString "_law_gate") K26.dI:=by
   dsimp only[L2.fR]
   refine' L2.cC KX G ?a ?l ?c ?k
   (case a=>k_is);(case l=>k_is);(case c=>k_is);(case k=>k_is)
  have D_law_twin:L2.Def (L2.fR KX) mg (Str.ofString "_law_twin") K26.dC:=by
   dsimp only[L2.fR]
   refine' L2.cC KX G ?a ?l ?c ?k
   (case a=>k_is);(case l=>k_is);(case c=>k_is);(case k=>k_is)
  have D_law_some_net:L2.Def (L2.fR KX) mg (Str.ofString "_law_some_net") K26.cm:=by
   dsimp only[L2.fR]
   refine' L2.cC KX G ?a ?l ?c ?k
   (case a=>k_is);(case l=>k_is);(case c=>k_is);(case k=>k_is)
  have D_law_inputs:L2.Def (L2.fR KX) mg (Str.ofString "_law_inputs") K26.cQ:=by
   dsimp only[L2.fR]
   refine' L2.cC KX G ?a ?l ?c ?k
   (case a=>k_is);(case l=>k_is);(case c=>k_is);(case k=>k_is)
  have D_law_spoilt:L2.Def (L2.fR KX) mg (Str.ofString "_law_spoilt") K26.cO:=by
   dsimp only[L2.fR]
   refine' L2.cC KX G ?a ?l ?c ?k
   (case a=>k_is);(case l=>k_is);(case c=>k_is);(case k=>k_is)
  have D_law:L2.Def (L2.fR KX) mg (Str.ofString "law") K26.nX:=by
   dsimp only[L2.fR]
   refine' L2.cC KX G ?a ?l ?c ?k
   (case a=>k_is);(case l=>k_is);(case c=>k_is);(case k=>k_is)
  obtain⟨cl,CF⟩:∃cl,K26.Cf (L2.fR KX) mg cl:=by
   dsimp only[L2.fR]
   refine' K26.GZ KX G ?aC0 ?pg0 ?hd0 ?po0 ?sa0 ?mk0 ?kc0 ?n0_net ?n0_many_inputs ?n0_full ?n0_in_masks ?aC1 ?pg1 ?hd1 ?po1 ?sa1 ?mk1 ?kc1 ?n1_bench ?n1_plain ?n1_unsure ?a_Bench___init__ ?i_Bench___init__ ?l_Bench___init__ ?dy ?k_Bench___init__ ?a_Bench_tells ?i_Bench_tells ?l_Bench_tells ?eO ?k_Bench_tells ?a_Bench_readings ?i_Bench_readings ?l_Bench_readings ?dv ?k_Bench_readings ?a_Trial___init__ ?i_Trial___init__ ?l_Trial___init__ ?du ?k_Trial___init__ ?a_Trial_breaks_at ?i_Trial_breaks_at ?l_Trial_breaks_at ?di ?k_Trial_breaks_at
   (case aC0=>k_is)
   (case pg0=>k_is)
   (case hd0=>k_is)
   (case po0=>k_is)
   (case sa0=>k_is)
   (case mk0=>k_is)
   (case kc0=>k_is)
   (case n0_net=>k_is)
   (case n0_many_inputs=>k_is)
   (case n0_full=>k_is)
   (case n0_in_masks=>k_is)
   (case aC1=>k_is)
   (case pg1=>k_is)
   (case hd1=>k_is)
   (case po1=>k_is)
   (case sa1=>k_is)
   (case mk1=>k_is)
   (case kc1=>k_is)
   (case n1_bench=>k_is)
   (case n1_plain=>k_is)
   (case n1_unsure=>k_is)
   (case a_Bench___init__=>k_is)
   (case i_Bench___init__=>k_is)
   (case l_Bench___init__=>k_is)
   (case dy=>k_is)
   (case k_Bench___init__=>k_is)
   (case a_Bench_tells=>k_is)
   (case i_Bench_tells=>k_is)
   (case l_Bench_tells=>k_is)
   (case eO=>k_is)
   (case k_Bench_tells=>k_is)
   (case a_Bench_readings=>k_is)
   (case i_Bench_readings=>k_is)
   (case l_Bench_readings=>k_is)
   (case dv=>k_is)
   (case k_Bench_readings=>k_is)
   (case a_Trial___init__=>k_is)
   (case i_Trial___init__=>k_is)
   (case l_Trial___init__=>k_is)
   (case du=>k_is)
   (case k_Trial___init__=>k_is)
   (case a_Trial_breaks_at=>k_is)
   (case i_Trial_breaks_at=>k_is)
   (case l_Trial_breaks_at=>k_is)
   (case di=>k_is)
   (case k_Trial_breaks_at=>k_is)
  have D_Bench___init__:=CF.D_Bench___init__
  have D_Bench_tells:=CF.D_Bench_tells
  have D_Bench_readings:=CF.D_Bench_readings
  have D_Trial___init__:=CF.D_Trial___init__
  have D_Trial_breaks_at:=CF.D_Trial_breaks_at
  have T:K26.Tp (L2.fR KX) mg cl:=by
   dsimp only[L2.fR]
   refine' ⟨PySem.W.mg_none_of KX G ?z_enumerate,PySem.W.mg_none_of KX G ?z_range,PySem.W.mg_none_of KX G ?z_len,PySem.W.mg_none_of KX G ?z_tuple,PySem.W.mg_none_of KX G ?z_reversed,PySem.W.mg_none_of KX G ?z_all,PySem.W.mg_none_of KX G ?z_zip,PySem.W.mg_none_of KX G ?z_any,PySem.W.mg_none_of KX G ?z_min,PySem.W.mg_none_of KX G ?z_list,PySem.W.mg_none_of KX G ?z_sorted,CF.C_Bench,CF.N_Bench_net,CF.N_Bench_many_inputs,CF.N_Bench_full,CF.N_Bench_in_masks,CF.M_Bench,CF.C_Trial,CF.N_Trial_bench,CF.N_Trial_plain,CF.N_Trial_unsure,CF.M_Trial⟩
   (case z_enumerate=>k_is);(case z_range=>k_is);(case z_len=>k_is);(case z_tuple=>k_is);(case z_reversed=>k_is);(case z_all=>k_is);(case z_zip=>k_is);(case z_any=>k_is);(case z_min=>k_is);(case z_list=>k_is);(case z_sorted=>k_is)
  obtain⟨fl,fd,Fl,hl⟩:=D_law
  have e0:=hmg.symm.trans hl
  cases e0
  refine' ⟨fd,?b,fun base kb nb=>K26.FC T D_vote_of D_gate_mask D_in_wire_masks D_masks_at D_wire_masks D_out_masks D_run D_reading D_bit_at D_read_at D_told D_all_inputs D_mask_of D_in_mask D_choices D_has_all D_Bench___init__ D_Bench_tells D_Bench_readings D_Trial___init__ D_Trial_breaks_at D_breaking D_law_next D_law_pots D_law_some_ins D_law_gate D_law_twin D_law_some_net D_law_inputs D_law_spoilt Fl⟩
  obtain⟨_,_,_,_,_,_,_,_,_,e,_,_⟩:=Fl.ex
  subst e
  exact fun s u=> .of_eq rfl
