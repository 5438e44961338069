import PyProof.Rows.All
import Wide.All
import OpenK.AllK
import Wide.FinOn
import Lean
import PyProof.EqAt
import PyProof.EqKinds
import PyProof.TupleCall
import PyProof.Rows.StrJoin2
import PyProof.TupleOfGen
import PyProof.ListRange
import PyProof.Draws
import PyProof.Rows.StrClose3
import KE.KSortedM
import PyProof.Rows.SortWalk
import PyProof.WalkInts
import PyProof.Rows.Range3
import PyProof.ZipIter
import PyProof.ConsumeWalk
import PyProof.Rows.SeqMore
import KE.KRevIter
import KE.KRevSl
import KE.KUnpack
import PySem.Challenge.RW_bearfaults_k13_whole_columns_by_runs
noncomputable section
set_option bootstrap.genMatcherCode false
def PySem.W.Fast.tw14473504952293746535:=0
def PySem.W.Fast.tw6156138978142933867:=0
def PySem.W.Fast.tw7528375138911778266:=0
def PySem.W.Fast.tw3986042642324209858:=0
def PySem.W.Fast.tw13409755562858475553:=0
def PySem.W.Fast.tw14035588682890639155:=0
def PySem.W.Fast.tw17307944625771839160:=0
def PySem.W.Fast.tw18353059913333067046:=0
def PySem.W.Fast.tw7040884173969489392:=0
def PySem.W.Fast.tw732636140254544754:=0
def PySem.W.Fast.tw5004603973026750259:=0
def PySem.W.Fast.tw9257031966833399391:=0
def PySem.W.Fast.tw18097709987621023991:=0
def PySem.W.Fast.tw13851457161999263185:=0
def PySem.W.Fast.tw16668319236173945937:=0
def PySem.W.Fast.tw10840622815915490258:=0
def PySem.W.Fast.tw92068511186750641:=0
def PySem.W.Fast.tw689415008642235267:=0
def PySem.W.Fast.tw2636615931185748113:=0
def PySem.W.Fast.tw11530629198730558665:=0
def PySem.W.Fast.tw9035602160295681408:=0
def PySem.W.Fast.tw13082842557800243075:=0
def PySem.W.Fast.tw12609180624193764047:=0
def PySem.W.Fast.tw10445677769143359186:=0
def PySem.W.Fast.tw12662675829257856637:=0
def PySem.W.Fast.tw1831651892884642349:=0
def PySem.W.Fast.tw8928339212182796512:=0
def PySem.W.Fast.tw8375241915926043763:=0
def PySem.W.Fast.tw11360266829621718419:=0
def PySem.W.Fast.tw8750510619021273307:=0
def PySem.W.Fast.tw11440092187722356385:=0
def PySem.W.Fast.tw11232863392439111607:=0
def PySem.W.Fast.tw12315280784390839826:=0
def PySem.W.Fast.tw16934571993461572235:=0
def PySem.W.Fast.tw4397956236067100647:=0
def PySem.W.Fast.tw8147550407705756790:=0
def PySem.W.Fast.tw12637175761590582994:=0
def PySem.W.Fast.tw3446096605957123706:=0
def PySem.W.Fast.tw13101327741210976117:=0
def PySem.W.Fast.tw12728754367027535225:=0
set_option Elab.async false
set_option linter.all false
set_option maxRecDepth 100000
set_option maxHeartbeats 4000000
section
set_option maxRecDepth 100000
namespace L2
open PySem PySem.Spec PyProof.Rows
noncomputable abbrev Key:=Sum Int Str
noncomputable def pF:Key→Value→Bool
 | .inl k,v=>Value.isInt k v
 | .inr x,v=>Value.isStrOf x v
noncomputable def Hb(w:World):Key→Int
 | .inl k=>hashInt k
 | .inr x=>hashStr w x
theorem cU:∀{k:Key} {v:Value},pF k v=true→(∃i t,k=Sum.inl i∧v=Value.int i t)∨(∃x t,k=Sum.inr x∧v=Value.str x t)
 | .inl i,v,h=>by
   obtain⟨t,e⟩:=Value.isInt_shape (k:=i) (v:=v) h
   exact .inl ⟨i,t,rfl,e⟩
 | .inr x,v,h=>by
   obtain⟨t,e⟩:=Value.isStrOf_shape (x:=x) (v:=v) h
   exact .inr ⟨x,t,rfl,e⟩
theorem w_(i:Int)(t:Tok):pF (.inl i) (.int i t)=true:=by simp [pF,Value.isInt]
theorem w6(x:Str)(t:Tok):pF (.inr x) (.str x t)=true:=by simp [pF,Value.isStrOf]
theorem CI(a b:Int):decide ((Sum.inl a:Key)=Sum.inl b)=(a==b):=by
 by_cases e:a=b
 ·subst e;simp
 ·have h:¬(Sum.inl a:Key)=Sum.inl b:=fun q=>e (Sum.inl.inj q)
  rw[decide_eq_false h]
  exact(beq_eq_false_iff_ne.mpr e).symm
theorem DR(a b:Str):decide ((Sum.inr a:Key)=Sum.inr b)=decide (a=b):=by
 by_cases e:a=b
 ·subst e;simp
 ·have h:¬(Sum.inr a:Key)=Sum.inr b:=fun q=>e (Sum.inr.inj q)
  rw[decide_eq_false h,decide_eq_false e]
theorem Cm(a:Int)(b:Str):decide ((Sum.inl a:Key)=Sum.inr b)=false:=decide_eq_false (fun q=>nomatch q)
theorem CW(a:Str)(b:Int):decide ((Sum.inr a:Key)=Sum.inl b)=false:=decide_eq_false (fun q=>nomatch q)
noncomputable def cV(prog:Program)(w:World):PySem.KeyKind prog w Key where
 is:=pF
 hash:=Hb w
 inj:=fun v a b ha hb=>by
  rcases cU ha with⟨i,t,rfl,rfl⟩ | ⟨x,t,rfl,rfl⟩
  ·rcases cU hb with⟨j,u,rfl,e⟩ | ⟨y,u,rfl,e⟩
   ·injection e with e1 _;rw [e1]
   ·exact nomatch e
  ·rcases cU hb with⟨j,u,rfl,e⟩ | ⟨y,u,rfl,e⟩
   ·exact nomatch e
   ·injection e with e1 _;rw [e1]
 byValue:=fun k v h=>by
  rcases cU h with⟨i,t,rfl,rfl⟩ | ⟨x,t,rfl,rfl⟩ <;> rfl
 pyHash:=fun hv h=>by
  rcases cU hv with⟨i,t,rfl,rfl⟩ | ⟨x,t,rfl,rfl⟩
  ·exact wpAny_pyHash_int h
  ·exact wpAny_pyHash_str h
 eqBool:=fun hu hv h=>by
  rcases cU hu with⟨i,t,rfl,rfl⟩ | ⟨x,t,rfl,rfl⟩
  ·rcases cU hv with⟨j,u,rfl,rfl⟩ | ⟨y,u,rfl,rfl⟩
   ·rw[CI] at h;exact wpAny_eqBool_int h
   ·rw[Cm] at h;exact SeqAt.EqAt.int_str i t y u _ _ _ _ h
  ·rcases cU hv with⟨j,u,rfl,rfl⟩ | ⟨y,u,rfl,rfl⟩
   ·rw[CW] at h;exact SeqAt.EqAt.str_int x t j u _ _ _ _ h
   ·rw[DR] at h;exact wpAny_eqBool_str h
 «strs»:=fun k x t v h=>by
  rcases cU h with⟨i,u,rfl,e⟩ | ⟨y,u,rfl,e⟩
  ·exact nomatch e
  ·injection e with e1 _
   subst e1
   cases v <;> rfl
theorem rf(prog:Program)(w:World)(i:Int)(t:Tok):(cV prog w).is (.inl i) (.int i t)=true:=w_ i t
theorem rj(prog:Program)(w:World)(x:Str)(t:Tok):(cV prog w).is (.inr x) (.str x t)=true:=w6 x t
end L2
namespace L2
open PySem PySem.Spec PyProof.Rows
inductive V where
 | cD | bl (b:Bool) | int (i:Int) | str (x:Str) | byt (b:Array UInt8) | flt (b:UInt64) | ref (a:Addr) | ty (n:String)
 deriving DecidableEq
noncomputable def RelV:V→Value→Prop
 | .cD,u=>u=Value.none
 | .bl b,u=>u=Value.bool b
 | .int i,u=>∃t,u=Value.int i t
 | .str x,u=>∃t,u=Value.str x t
 | .byt b,u=>∃t,u=Value.bytes b t
 | .flt b,u=>∃t,u=Value.float b t
 | .ref a,u=>u=Value.ref a
 | .ty n,u=>u=Value.type n
noncomputable abbrev Vals:List V→List Value→Prop:=Paired RelV
theorem Vals.length{xs:List V}{us:List Value}(r:Vals xs us):xs.length=us.length:=Paired.length r
theorem Vals.get:∀{xs:List V} {us:List Value} {i:Nat} {x:V},Vals xs us→xs[i]? =some x→∃u,us[i]? =some u∧RelV x u
 | _,_,_,_, .nil,e=>by simp at e
 | _,_,0,_, .cons r _,e=>by simp at e;subst e;exact⟨_,rfl,r⟩
 | _,_,i+1,x, .cons _ t,e=>by
   obtain⟨u,h1,h2⟩:=Vals.get (i:=i) (x:=x) t (by simpa using e)
   exact⟨u,by simpa using h1,h2⟩
theorem Vals.set{x:V}{u:Value}(r:RelV x u):∀{xs:List V} {us:List Value} (i:Nat),Vals xs us→Vals (xs.set i x) (us.set i u)
 | _,_,_, .nil=> .nil
 | _,_,0, .cons _ t=> .cons r t
 | _,_,i+1, .cons q t=> .cons q (Vals.set r i t)
theorem Vals.append:∀{xs ys:List V} {us ws:List Value},Vals xs us→Vals ys ws→Vals (xs++ys) (us++ws)
 | _,_,_,_, .nil,s=>s
 | _,_,_,_, .cons r t,s=> .cons r (Vals.append t s)
theorem Vals.take:∀{xs:List V} {us:List Value} (n:Nat),Vals xs us→Vals (xs.take n) (us.take n)
 | _,_,0,_=> .nil
 | _,_,_+1, .nil=> .nil
 | _,_,n+1, .cons r t=> .cons r (Vals.take n t)
theorem Vals.drop:∀{xs:List V} {us:List Value} (n:Nat),Vals xs us→Vals (xs.drop n) (us.drop n)
 | _,_,0,r=>r
 | _,_,_+1, .nil=> .nil
 | _,_,n+1, .cons _ t=>Vals.drop n t
noncomputable def lj:Option V→Option Value→Prop
 | some v,some u=>RelV v u
 | none,none=>True
 | _,_=>False
noncomputable def KV{κ:Type}:List (κ × V)→List (κ × Value)→Prop:=Paired fun(p:κ × V) (q:κ × Value)=>p.1=q.1∧RelV p.2 q.2
noncomputable def kV:Key→V
 | .inl i=> .int i
 | .inr x=> .str x
inductive HO where
 | lst (xs:List V)
 | tup (xs:List V)
 | dK (kvs:List (Key × V)) | dT (kvs:List (List Key × V))
 | set (S:Int→Bool) (n:Nat)
 | ins (C dx:Addr) (fs:List (Str × V))
 | own (x:Addr)
 | xd (fs:List (Str × V))
 | met (f x:Addr)
 | rng (lo hi:Int)
 | g6 (o:Obj) (u:HO)
 | tbl (ps:Array Value)
 | ext (φ:Heap→Prop)
noncomputable abbrev Hp:=Addr→Option HO
noncomputable def upd(H:Hp)(a:Addr)(o:HO):Hp:=fun b=>if b=a then some o else H b
theorem bc{H:Hp}{a:Addr}{o:HO}:upd H a o a=some o:=by unfold upd;rw [if_pos rfl]
theorem bf{H:Hp}{a b:Addr}{o:HO}(h:b≠a):upd H a o b=H b:=by unfold upd;rw [if_neg h]
theorem Aw{H:Hp}{a:Addr}{o u:HO}:upd (upd H a o) a u=upd H a u:=by
 funext b;unfold upd;split <;> rfl
theorem bK{H:Hp}{a b:Addr}{o:HO}(h:H a=some o)(h':H b=none):a≠b:=by
 intro e;subst e;rw [h] at h';cases h'
section
variable (P:Program) (w:World)
noncomputable def dj(H:Hp)(h:Heap)(a:Addr):HO→Prop
 | .lst xs=>xs.length≤sizeLine∧∃(its:List Value) (n:Nat),Vals xs its∧h.get? a=some {cls:= .type "list",data:= .seq its.toArray n}
 | .tup xs=>xs.length≤sizeLine∧∃its:List Value,Vals xs its∧IsTup h a its.toArray
 | .dK kvs=>kvs.length≤sizeLine∧(a==sysModules)=false∧∃vs,KV kvs vs∧h.DictOf (cV P w) a vs
 | .dT kvs=>kvs.length≤sizeLine∧(a==sysModules)=false∧∃xs:List (List Key × Addr × Value),
    Paired (fun(p:List Key × V) (q:List Key × Addr × Value)=>p.1=q.1∧H q.2.1=some (.tup (p.1.map kV))∧RelV p.2 q.2.2) kvs xs∧
    ∃o es ep,h.get? a=some o∧o.ExactDict∧o.data= .dict es ep∧es.toList=xs.map (entryOfKey (tupleKind (cV P w)))∧(xs.map (·.1)).Nodup
 | .set S n=>h.SetOf (intKind P w) a S n
 | .ins C dx fs=>H dx=some (.own a)∧fs.length≤1000∧dx≠a∧h.get? a=some (PySem.W.instObj C dx)∧
    ∃mA,h.Ns1 dx mA∧(∀f,lj (fs.lookup f) (mA f))∧PySem.Within mA (fs.map (·.1))
 | .own _=>∃o,h.get? a=some o
 | .xd fs=>∃mA,h.Ns1 a mA∧∀f,lj (fs.lookup f) (mA f)
 | .rng lo hi=>∃t u v,h.get? a=some {cls:= .type "range",data:= .fields #[.int lo t, .int hi u, .int 1 v]}
 | .g6 o u=>h.get? a=some o∧dj H h a u
 | .tbl ps=>h.get? a=some {cls:= .none,data:= .fields ps}
 | .met f x=>h.get? a=some (PySem.W.methodObj (.ref f) (.ref x))
 | .ext φ=>φ h∧(∃o,h.get? a=some o)∧∀h1 h2:Heap,φ h1→(∀o,h1.get? a=some o→h2.get? a=some o)→φ h2
noncomputable def ky(H:Hp)(h:Heap):Prop:=∀a o,H a=some o→dj P w H h a o
end
section
variable {P:Program} {w:World} {H H':Hp} {h h':Heap} {a:Addr} {o:HO}
theorem dj.lt(x:dj P w H h a o):a < h.objs.size:=by
 cases o with
 | lst xs=>obtain⟨_,_,_,_,e⟩:=x;exact Heap.lt_size e
 | tup xs=>obtain⟨_,_,_,p⟩:=x;exact p.lt
 | dK kvs=>obtain⟨_,_,_,_,o,_,_,e,_⟩:=x;exact Heap.lt_size e
 | dT kvs=>obtain⟨_,_,_,_,o,_,_,e,_⟩:=x;exact Heap.lt_size e
 | set S n=>obtain⟨o,_,_,_,e,_⟩:=x;exact Heap.lt_size e
 | ins C dx fs=>obtain⟨_,_,_,e,_⟩:=x;exact Heap.lt_size e
 | own y=>obtain⟨_,e⟩:=x;exact Heap.lt_size e
 | xd fs=>obtain⟨_,⟨_,_,_,e,_⟩,_⟩:=x;exact Heap.lt_size e
 | rng lo hi=>obtain⟨_,_,_,e⟩:=x;exact Heap.lt_size e
 | g6 ob u=>obtain⟨e,_⟩:=x;exact Heap.lt_size e
 | tbl ps=>exact Heap.lt_size (show h.get? a=some _ from x)
 | met f y=>exact Heap.lt_size (show h.get? a=some _ from x)
 | ext φ=>obtain⟨_,⟨_,e⟩,_⟩:=x;exact Heap.lt_size e
theorem Paired.FN{α β:Type}{F G:α→β→Prop}:∀{l₁:List α} {l₂:List β},Paired F l₁ l₂→(∀a b,F a b→G a b)→Paired G l₁ l₂
 | _,_, .nil,_=> .nil
 | _,_, .cons r t,f=> .cons (f _ _ r) (Paired.FN t f)
theorem dj.ua(x:dj P w H h a o)(k:∀b u,(b=a∨H b=some (.own a))→h.get? b=some u→h'.get? b=some u)
 (ho:∀b,H b=some (.own a)→H' b=some (.own a)) (ht:∀b xs,H b=some (.tup xs)→H' b=some (.tup xs)):dj P w H' h' a o:=by
 induction o with
 | lst xs=>obtain⟨z,its,n,r,e⟩:=x;exact⟨z,its,n,r,k _ _ (.inl rfl) e⟩
 | tup xs=>obtain⟨z,its,r,ob,e,c⟩:=x;exact⟨z,its,r,ob,k _ _ (.inl rfl) e,c⟩
 | dK kvs=>obtain⟨z,y,vs,r,ob,es,ep,e,c⟩:=x;exact⟨z,y,vs,r,ob,es,ep,k _ _ (.inl rfl) e,c⟩
 | dT kvs=>
   obtain⟨z,y,xs,r,ob,es,ep,e,c⟩:=x
   exact⟨z,y,xs,Paired.FN r fun p q z=>⟨z.1,ht _ _ z.2.1,z.2.2⟩,ob,es,ep,k _ _ (.inl rfl) e,c⟩
 | set S n=>obtain⟨ob,es,ep,t,e,c⟩:=x;exact⟨ob,es,ep,t,k _ _ (.inl rfl) e,c⟩
 | ins C dx fs=>
   obtain⟨d,z,ne,e,mA,⟨od,es,ep,e2,c⟩,r⟩:=x
   exact⟨ho _ d,z,ne,k _ _ (.inl rfl) e,mA,⟨od,es,ep,k _ _ (.inr d) e2,c⟩,r⟩
 | own y=>obtain⟨ob,e⟩:=x;exact⟨ob,k _ _ (.inl rfl) e⟩
 | xd fs=>obtain⟨mA,⟨od,es,ep,e,c⟩,r⟩:=x;exact⟨mA,⟨od,es,ep,k _ _ (.inl rfl) e,c⟩,r⟩
 | rng lo hi=>obtain⟨t,u,v,e⟩:=x;exact⟨t,u,v,k _ _ (.inl rfl) e⟩
 | g6 ob u ih=>obtain⟨e,q⟩:=x;exact⟨k _ _ (.inl rfl) e,ih q⟩
 | tbl ps=>
   have e:h.get? a=some {cls:= .none,data:= .fields ps}:=x
   show h'.get? a=some {cls:= .none,data:= .fields ps}
   exact k a _ (.inl rfl) e
 | met f y=>
   have e:h.get? a=some (PySem.W.methodObj (.ref f) (.ref y)):=x
   show h'.get? a=some (PySem.W.methodObj (.ref f) (.ref y))
   exact k a _ (.inl rfl) e
 | ext φ=>obtain⟨p,⟨o,e⟩,st⟩:=x;exact⟨st _ _ p fun o q=>k _ _ (.inl rfl) q,⟨o,k _ _ (.inl rfl) e⟩,st⟩
theorem ky.lt(x:ky P w H h)(e:H a=some o):a < h.objs.size:=(x a o e).lt
theorem ky.fresh(x:ky P w H h)(e:h.objs.size≤a):H a=none:=by
 cases q:H a with
 | none=>rfl
 | some u=>exact absurd (Nat.lt_of_lt_of_le (x.lt q) e) (Nat.lt_irrefl _)
theorem ky.kept(x:ky P w H h)(k:∀b u,h.get? b=some u→h'.get? b=some u):ky P w H h':=fun a o e=>
 (x a o e).ua (fun b u _ q=>k b u q) (fun _ q=>q) fun _ _ q=>q
theorem ky.laid(x:ky P w H h)(k:∀b u,h.get? b=some u→h'.get? b=some u)(hp:h.objs.size≤a)(new:dj P w (upd H a o) h' a o):ky P w (upd H a o) h':=fun b u e=>by
 have hn:=x.fresh hp
 by_cases hb:b=a
 ·subst hb;rw [bc] at e;cases e;exact new
 ·rw[bf hb] at e
  exact(x b u e).ua (fun c v _ q=>k c v q) (fun c q=>by rw[bf (bK q hn)];exact q) fun c xs q=>by rw[bf (bK q hn)];exact q
end
noncomputable def Rd(H:Hp)(a:Addr)(u:HO):Prop:=H a=some u∨∃o,H a=some (.g6 o u)
theorem Rd.ok{P:Program}{w:World}{H:Hp}{h:Heap}{a:Addr}{u:HO}(r:Rd H a u)(x:ky P w H h):dj P w H h a u:=by
 rcases r with r | ⟨o,r⟩
 ·exact x a u r
 ·obtain⟨_,q⟩:=x a _ r
  exact q
noncomputable def EJ:Option HO→Prop
 | some (.lst _)=>True
 | some (.dK _)=>True
 | some (.dT _)=>True
 | some (.set _ _)=>True
 | some (.ins _ _ _)=>True
 | some (.ext _)=>True
 | _=>False
section
variable {P:Program} {w:World} {H:Hp} {h h':Heap} {x e:Addr} {o':HO}
theorem ky.write(ok:ky P w H h)(mu:EJ (H x))(he:e=x∨H e=some (.own x))(k:∀b u,b≠e→h.get? b=some u→h'.get? b=some u)(heo:∃u,h'.get? e=some u)
 (new:dj P w (upd H x o') h' x o'):ky P w (upd H x o') h':=fun b u q=>by
 have nown:∀c y,H c=some (.own y)→c≠x:=fun c y r z=>by subst z;rw [r] at mu;exact mu
 have ntup:∀c xs,H c=some (.tup xs)→c≠x:=fun c xs r z=>by subst z;rw [r] at mu;exact mu
 by_cases hb:b=x
 ·subst hb;rw [bc] at q;cases q;exact new
 ·rw[bf hb] at q
  by_cases hbe:b=e
  ·have q':H b=some (.own x):=by
    rcases he with z | z
    ·exact absurd (hbe.trans z) hb
    ·rw[hbe];exact z
   rw[q] at q';cases q'
   obtain⟨v,hv⟩:=heo
   exact⟨v,by rw[hbe];exact hv⟩
  ·refine(ok b u q).ua (fun c v hc r=>k c v ?_ r) (fun c r=>by rw[bf (nown c b r)];exact r) fun c xs r=>by rw[bf (ntup c xs r)];exact r
   rcases hc with rfl | hc
   ·exact hbe
   ·rintro rfl
    rcases he with z | z
    ·exact nown c b hc z
    ·rw[hc] at z;cases z;exact hb rfl
end
structure Un (fs ex:List Addr) (H H':Hp) (h h':Heap):Prop where
 keep:∀b o,h.get? b=some o→H b=none→b ∉ fs→b ∉ ex→h'.get? b=some o
 slot:∀b o,h.get? b=some o→H b=none→b∈fs→b ∉ ex→∃sl,h'.get? b=some {o with slots:=sl}
 free:∀b o,h.get? b=some o→H b=none→b ∉ ex→H' b=none
 there:∀b o,h.get? b=some o→b ∉ ex→∃o',h'.get? b=some o'
 tups:∀b xs,H b=some (.tup xs)→H' b=some (.tup xs)
 frzs:∀b o u,H b=some (.g6 o u)→H' b=some (.g6 o u)
 tbls:∀b ps,H b=some (.tbl ps)→∃more,H' b=some (.tbl (ps++more))
section
variable {fs fs' ex ex':List Addr} {H H1 H2:Hp} {h h1 h2 h':Heap} {a x e:Addr} {o:HO}
theorem Un.any(u:Un fs ex H H1 h h1){b:Addr}{ob:Obj}(q:h.get? b=some ob)(n:H b=none)(hx:b ∉ ex):∃sl,h1.get? b=some {ob with slots:=sl}:=by
 by_cases hb:b∈fs
 ·exact u.slot b ob q n hb hx
 ·exact⟨ob.slots,u.keep b ob q n hb hx⟩
theorem Un.kept(k:∀b u,h.get? b=some u→h'.get? b=some u):Un fs ex H H h h':=
 ⟨fun b ob q _ _ _=>k b ob q,fun b ob q _ _ _=>⟨ob.slots,k b ob q⟩,fun _ _ _ n _=>n,fun b ob q _=>⟨ob,k b ob q⟩,fun _ _ q=>q,fun _ _ _ q=>q,fun _ ps q=>⟨#[],by rw[q];simp⟩⟩
theorem Un.refl:Un fs ex H H h h:=Un.kept fun _ _ q=>q
theorem Un.laid(k:∀b u,h.get? b=some u→h'.get? b=some u)(hp:h.objs.size≤a)(hn:H a=none):Un fs ex H (upd H a o) h h' where
 keep:=fun b u q _ _ _=>k b u q
 slot:=fun b u q _ _ _=>⟨u.slots,k b u q⟩
 free:=fun b u q n _=>by rw[bf (Nat.ne_of_lt (Nat.lt_of_lt_of_le (Heap.lt_size q) hp))];exact n
 there:=fun b u q _=>⟨u,k b u q⟩
 tups:=fun b xs q=>by rw[bf (bK q hn)];exact q
 frzs:=fun b u xs q=>by rw[bf (bK q hn)];exact q
 tbls:=fun b ps q=>⟨#[],by rw[bf (bK q hn),q];simp⟩
theorem Un.write(mu:EJ (H x))(he:e=x∨H e=some (.own x))(k:∀b u,b≠e→h.get? b=some u→h'.get? b=some u)(heo:∃u,h'.get? e=some u):Un fs ex H (upd H x o) h h':=by
 have hx:∀b,H b=none→b≠x:=fun b n z=>by subst z;rw [n] at mu;exact mu
 have hb:∀b,H b=none→b≠e:=fun b n z=>by
  subst z
  rcases he with r | r
  ·exact hx b n r
  ·rw[n] at r;cases r
 have hm:∀b u,H b=some u→¬EJ (some u)→b≠x:=fun b u q nm z=>by subst z;rw [q] at mu;exact nm mu
 refine⟨fun b u q n _ _=>k b u (hb b n) q,fun b u q n _ _=>⟨u.slots,k b u (hb b n) q⟩,fun b u q n _=>by rw[bf (hx b n)];exact n,fun b u q _=>?_,
  fun b xs q=>by rw[bf (hm b _ q fun z=>z)];exact q,fun b u xs q=>by rw[bf (hm b _ q fun z=>z)];exact q,fun b ps q=>⟨#[],by rw[bf (hm b _ q fun z=>z),q];simp⟩⟩
 by_cases hbe:b=e
 ·subst hbe;exact heo
 ·exact⟨u,k b u hbe q⟩
end
noncomputable def F3(h:Heap)(H:Hp):List Addr:=(List.range h.objs.size).filter fun a=>(H a).isSome
noncomputable def qv(h:Heap)(H:Hp):Heap:=PySem.W.hideAll h (F3 h H)
theorem wY(h:Heap)(H:Hp):(qv h H).objs.size=h.objs.size:=PySem.W.hideAll_size _ _
theorem xp{h:Heap}{H:Hp}{b:Addr}{o:Obj}(e:h.get? b=some o)(n:H b=none):(qv h H).get? b=some o:=
 PySem.W.hideAll_get _ e fun hm=>by
  have q:(H b).isSome=true:=(List.mem_filter.mp hm).2
  rw[n] at q;simp at q
theorem Bu{h:Heap}{H:Hp}{b:Addr}{o:Obj}(e:(qv h H).get? b=some o):h.get? b=some o∧H b=none:=by
 have e':h.get? b=some o:=PySem.W.of_hideAll (F3 h H) e
 refine⟨e',?_⟩
 cases q:H b with
 | none=>rfl
 | some x=>
   have hm:b∈F3 h H:=List.mem_filter.mpr ⟨List.mem_range.mpr (Heap.lt_size e'),by simp [q]⟩
   have z:(qv h H).get? b=none:=PySem.W.hideAll_none (F3 h H) hm
   rw[z] at e;cases e
noncomputable def Au(g h:Heap)(L:Addr):List (Addr × Obj):=(List.range h.objs.size).filterMap fun a=>if a=L∨(g.get? a).isSome=true then none else(h.get? a).map fun o=>(a,o)
noncomputable def rest(g h:Heap)(L d:Addr):List (Addr × Obj):=(Au g h L).filter fun p=>decide (p.1≠d)
end L2
namespace L2
open PySem PySem.Spec PyProof.Rows
structure Mod (K:PySem.W.Frag) (mg:Str→Option Value) (base:Heap):Prop where
 kin:K.In base
 glob:base.Ns mainGlobals mg
 blt:∃mb,base.Ns builtinsNs mb∧∀x:Str,x≠"__name__"→mb x=bootBuiltins x
 nolimit:base.NoLimit
structure Cx where
 prog:Program
 w:World
 K:PySem.W.Frag
 mg:Str→Option Value
 base:Heap
 A:Around
 N:List Str
 s₀:Shared
 H₀:Hp
 env:Env
 outer:List Env
 stack:List Env
 ex:List Addr
 fn:Str→Bool
 calm:Bool
 pn:List (Addr × Obj)
 xe:Value→Shared→Prop
noncomputable def xh(l:List Env):List Addr:=l.filterMap (·.frame)
noncomputable abbrev Cx.fs(X:Cx):List Addr:=xh X.outer
noncomputable def D9(sc:Scope)(x:Str):Prop:=sc.names.lookup x=some .local∨sc.names.lookup x=some .cell∨sc.names.lookup x=some .free
noncomputable def Loc(sc:Scope)(x:Str):Prop:=sc.names.lookup x=some .local∨sc.names.lookup x=some .cell
noncomputable def Look(env:Env)(h:Heap)(m:Str→Option Value)(x:Str)(u:Value):Prop:=
 (env.kindOf x=some .local∧m x=some u)∨((env.kindOf x=some .cell∨env.kindOf x=some .free)∧∃c,env.cells.lookup x=some c∧h.IsCell c (some u))
structure Cx.Ok (X:Cx):Prop where
 mod:Mod X.K X.mg X.base
 kind:X.env.scope.kind= .function
 glob:X.env.globals=mainGlobals
 blt:X.env.builtins=builtinsNs
 above:X.s₀.heap.objs.size≤X.env.locals
 inj:∀x y c,X.env.cells.lookup x=some c→X.env.cells.lookup y=some c→x=y
 has:∀x,(X.env.kindOf x=some .cell∨X.env.kindOf x=some .free)→∃c,X.env.cells.lookup x=some c
 cab:∀x c,X.fn x=true→X.env.cells.lookup x=some c→X.s₀.heap.objs.size≤c
 hd:X.calm=true→X.A.handled=none
 frames:X.A.frames=some X.stack
 stk:X.stack=X.outer∨(X.stack=X.env ::X.outer∧X.env.frame=some X.env.locals)
 exf:∀b∈X.ex,b≠X.env.locals∧∀x c,X.env.cells.lookup x=some c→c≠b
 bs:∀b o,X.base.get? b=some o→X.s₀.heap.get? b=some o∧X.H₀ b=none
 bsz:X.base.objs.size≤X.s₀.heap.objs.size
 noex:∀b o,X.base.get? b=some o→b ∉ X.ex
 exfs:∀b∈X.ex,b ∉ X.fs
 mK:X.s₀.heap.FunFrames X.base X.outer
 frf:∀b∈X.fs,X.H₀ b=none
structure Inv (X:Cx) (pins:List (Addr × Obj)) (σ:List (Option V)) (H:Hp) (s:Shared):Prop where
 ok:X.Ok
 os:s.os=X.s₀.os
 bare:AllBare s.gens
 base:Un X.fs X.ex X.H₀ H X.s₀.heap s.heap
 loc:∃m,s.heap.Ns X.env.locals m∧∀(i:Nat) (x:Str) (v:V),X.N[i]? =some x→σ[i]? =some (some v)→D9 X.env.scope x→∃u,RelV v u∧Look X.env s.heap m x u
 cell:∀x c,X.env.cells.lookup x=some c→∃v,s.heap.IsCell c v
 free:H X.env.locals=none
 freeC:∀x c,X.env.cells.lookup x=some c→H c=none
 pin:∀p∈X.pn++pins,s.heap.get? p.1=some p.2∧H p.1=none∧p.1≠X.env.locals∧p.1 ∉ X.fs∧∀v,p.2.data≠ .cell v
 hok:ky X.prog X.w H s.heap
 len:σ.length=X.N.length
section
variable {X:Cx} {pins:List (Addr × Obj)} {σ:List (Option V)} {H H':Hp} {s:Shared} {h':Heap}
theorem Cx.Ok.GU(ok:X.Ok){b:Addr}{o:Obj}(e:X.base.get? b=some o):b ∉ X.fs:=fun hb=>by
 have:=(ok.mK.mem hb).1
 rw[e] at this;cases this
theorem Inv.bs(I:Inv X pins σ H s):∀b o,X.base.get? b=some o→s.heap.get? b=some o∧H b=none:=fun b o e=>
 ⟨I.base.keep b o (I.ok.bs b o e).1 (I.ok.bs b o e).2 (I.ok.GU e) (I.ok.noex b o e),I.base.free b o (I.ok.bs b o e).1 (I.ok.bs b o e).2 (I.ok.noex b o e)⟩
theorem Inv.bk(I:Inv X pins σ H s):∀b o,X.base.get? b=some o→s.heap.get? b=some o:=fun b o e=>(I.bs b o e).1
theorem Inv.mod(I:Inv X pins σ H s):Mod X.K X.mg X.base:=I.ok.mod
theorem Inv.lJ(I:Inv X pins σ H s):X.K.In s.heap:=I.ok.mod.kin.keeps I.bk
theorem Inv.lt(I:Inv X pins σ H s):X.env.locals < s.heap.objs.size:=let⟨_,hn,_⟩:=I.loc;hn.lt
theorem Inv.sz(I:Inv X pins σ H s):X.s₀.heap.objs.size≤s.heap.objs.size:=Nat.le_trans I.ok.above (Nat.le_of_lt I.lt)
theorem Inv.G_(I:Inv X pins σ H s){a:Addr}(h:s.heap.objs.size≤a):a ∉ X.fs:=fun hb=>by
 obtain⟨_,o,ho,_⟩:=I.ok.mK.mem hb
 exact absurd (Nat.lt_of_lt_of_le (Heap.lt_size ho) (Nat.le_trans I.sz h)) (Nat.lt_irrefl _)
theorem Inv.Dz(I:Inv X pins σ H s):∀x c,X.env.cells.lookup x=some c→c≠X.env.locals:=fun x c e z=>by
 obtain⟨v,o,ho,hd⟩:=I.cell x c e
 obtain⟨m,⟨o',es,ep,ho',hd',_⟩,_⟩:=I.loc
 rw[z,ho'] at ho;cases ho;rw [hd'] at hd;cases hd
theorem Inv.mK(I:Inv X pins σ H s):s.heap.FunFrames X.base X.outer:=by
 have all:∀(l:List Env),(∀b∈xh l,b∈X.fs)→X.s₀.heap.FunFrames X.base l→s.heap.FunFrames X.base l:=by
  intro l
  induction l with
  | nil=>intro _ _;trivial
  | cons env r ih=>
    intro hs hl
    obtain⟨hk,⟨L,o,hf,hn,ho,hd⟩,hr⟩:=hl
    have hL:L∈X.fs:=hs L (by unfold xh;rw [List.filterMap_cons,hf];exact List.mem_cons_self)
    obtain⟨sl,e⟩:=I.base.slot L o ho (I.ok.frf L hL) hL fun z=>I.ok.exfs L z hL
    exact⟨hk,⟨L,_,hf,hn,e,hd⟩,ih (fun b hb=>hs b (by unfold xh;rw [List.filterMap_cons,hf];exact List.mem_cons_of_mem _ hb)) hr⟩
 exact all X.outer (fun _ hb=>hb) I.ok.mK
theorem Inv.stack(I:Inv X pins σ H s):s.heap.FunFrames X.base X.stack:=by
 rcases I.ok.stk with e | ⟨e,hf⟩
 ·rw[e];exact I.mK
 ·rw[e]
  obtain⟨m,hn,_⟩:=I.loc
  refine .cons (by rw[I.ok.kind];decide) hf hn ?_ I.mK
  exact Heap.get?_none_of_le (Nat.le_trans I.ok.bsz I.ok.above)
theorem Inv.uw(I:Inv X pins σ H s):∀b∈xh X.stack,b∈X.env.locals ::X.fs:=fun b hb=>by
 rcases I.ok.stk with e | ⟨e,hf⟩
 ·rw[e] at hb;exact List.mem_cons_of_mem _ hb
 ·rw[e] at hb
  unfold xh at hb
  rw[List.filterMap_cons,hf] at hb
  exact hb
theorem Inv.vc(I:Inv X pins σ H s):∀b∈xh X.stack,H b=none:=fun b hb=>by
 rcases List.mem_cons.mp (I.uw b hb) with e | hb
 ·rw[e];exact I.free
 ·obtain⟨_,o,ho,_⟩:=I.ok.mK.mem hb
  exact I.base.free b o ho (I.ok.frf b hb) fun z=>I.ok.exfs b z hb
theorem Inv.step{g':Array GenState}{t':Nat}{d':Drawn}{ch:List Addr}(I:Inv X pins σ H s)
 (hch:∀b∈ch,(b∈X.ex∨X.s₀.heap.objs.size≤b)∧b≠X.env.locals∧(∀x c,X.env.cells.lookup x=some c→c≠b)∧∀p∈X.pn++pins,p.1≠b)
 (keep:∀b o,b≠X.env.locals→b ∉ X.fs→b ∉ ch→s.heap.get? b=some o→H b=none→h'.get? b=some o)
 (slot:∀b o,b≠X.env.locals→b∈X.fs→b ∉ ch→s.heap.get? b=some o→H b=none→∃sl,h'.get? b=some {o with slots:=sl}) (free:∀b o,b ∉ ch→s.heap.get? b=some o→H b=none→H' b=none)
 (there:∀b o,b ∉ ch→s.heap.get? b=some o→∃o',h'.get? b=some o')
 (tups:∀b xs,H b=some (.tup xs)→H' b=some (.tup xs)) (frzs:∀b o u,H b=some (.g6 o u)→H' b=some (.g6 o u)) (tbls:∀b ps,H b=some (.tbl ps)→∃more,H' b=some (.tbl (ps++more)))
 (ns:∀m,s.heap.Ns X.env.locals m→h'.Ns X.env.locals m) (hok:ky X.prog X.w H' h') (hg:AllBare g') :
 Inv X pins σ H' {s with heap:=h',gens:=g',drawn:=d',toks:=t'}:=by
 have neL:∀b o,X.s₀.heap.get? b=some o→b≠X.env.locals:=fun b o e=>Nat.ne_of_lt (Nat.lt_of_lt_of_le (Heap.lt_size e) I.ok.above)
 have neC:∀b o,X.s₀.heap.get? b=some o→b ∉ X.ex→b ∉ ch:=fun b o e hx hb=>by
  rcases(hch b hb).1 with z | z
  ·exact hx z
  ·exact absurd (Nat.lt_of_lt_of_le (Heap.lt_size e) z) (Nat.lt_irrefl _)
 have cellK:∀x c,X.env.cells.lookup x=some c→∀v,s.heap.IsCell c v→h'.IsCell c v:=fun x c e v ⟨o,ho,hd⟩=>by
  have nch:c ∉ ch:=fun z=>(hch c z).2.2.1 x c e rfl
  by_cases hc:c∈X.fs
  ·obtain⟨sl,q⟩:=slot c o (I.Dz x c e) hc nch ho (I.freeC x c e)
   exact⟨_,q,hd⟩
  ·exact⟨o,keep c o (I.Dz x c e) hc nch ho (I.freeC x c e),hd⟩
 refine⟨I.ok,I.os,hg,⟨fun b o e n hb hx=>?_,fun b o e n hb hx=>?_,fun b o e n hx=>?_,fun b o e hx=>?_,fun b xs e=>tups b xs (I.base.tups b xs e),fun b o xs e=>frzs b o xs (I.base.frzs b o xs e),fun b ps e=>?_⟩,?_,fun x c e=>?_,?_,fun x c e=>?_,fun p hp=>?_,hok,I.len⟩
 ·exact keep b o (neL b o e) hb (neC b o e hx) (I.base.keep b o e n hb hx) (I.base.free b o e n hx)
 ·obtain⟨sl,e1⟩:=I.base.slot b o e n hb hx
  obtain⟨sl',e2⟩:=slot b _ (neL b o e) hb (neC b o e hx) e1 (I.base.free b o e n hx)
  exact⟨sl',e2⟩
 ·obtain⟨o',e1⟩:=I.base.there b o e hx
  exact free b o' (neC b o e hx) e1 (I.base.free b o e n hx)
 ·obtain⟨o',e1⟩:=I.base.there b o e hx
  exact there b o' (neC b o e hx) e1
 ·obtain⟨m1,e1⟩:=I.base.tbls b ps e
  obtain⟨m2,e2⟩:=tbls b _ e1
  exact⟨m1++m2,by rw[e2,Array.append_assoc]⟩
 ·obtain⟨m,hn,hl⟩:=I.loc
  refine⟨m,ns m hn,fun i x v e1 e2 e3=>?_⟩
  obtain⟨u,r,l⟩:=hl i x v e1 e2 e3
  refine⟨u,r,?_⟩
  rcases l with l | ⟨k,c,e,z⟩
  ·exact .inl l
  ·exact .inr ⟨k,c,e,cellK x c e _ z⟩
 ·obtain⟨v,z⟩:=I.cell x c e
  exact⟨v,cellK x c e v z⟩
 ·obtain⟨m,⟨o,_,_,ho,_⟩,_⟩:=I.loc
  exact free _ o (fun z=>(hch _ z).2.1 rfl) ho I.free
 ·obtain⟨v,o,ho,hd⟩:=I.cell x c e
  exact free c o (fun z=>(hch c z).2.2.1 x c e rfl) ho (I.freeC x c e)
 ·obtain⟨e,n,ne,nf,d⟩:=I.pin p hp
  have nch:p.1 ∉ ch:=fun z=>(hch p.1 z).2.2.2 p hp rfl
  exact⟨keep p.1 p.2 ne nf nch e n,free p.1 p.2 nch e n,ne,nf,d⟩
theorem Inv.un{t':Nat}(I:Inv X pins σ H s)(u:Un X.fs [] H H' s.heap h')(hok:ky X.prog X.w H' h'):Inv X pins σ H' {s with heap:=h',toks:=t'}:=by
 obtain⟨m,⟨o,es,ep,ho,r⟩,_⟩:=id I.loc
 obtain⟨sl,hL⟩:=u.any ho I.free (by simp)
 exact I.step (g':=s.gens) (d':=s.drawn) (ch:=[]) (fun _ z=>nomatch z) (fun b o _ hb _ e n=>u.keep b o e n hb (by simp)) (fun b o _ hb _ e n=>u.slot b o e n hb (by simp)) (fun b o _ e n=>u.free b o e n (by simp)) (fun b o _ e=>u.there b o e (by simp)) u.tups u.frzs u.tbls (fun m' hm=>by
  obtain⟨o',es',ep',ho',r'⟩:=hm
  rw[ho] at ho';cases ho'
  exact⟨_,es',ep',hL,r'⟩) hok I.bare
theorem Inv.call{g':Array GenState}{t':Nat}{d':Drawn}{ch:List Addr}(I:Inv X pins σ H s)(u:Un (xh X.stack) ch H H' s.heap h')(hok:ky X.prog X.w H' h')(hg:AllBare g')
 (hch:∀b∈ch,(b∈X.ex∨X.s₀.heap.objs.size≤b)∧b≠X.env.locals∧(∀x c,X.env.cells.lookup x=some c→c≠b)∧∀p∈X.pn++pins,p.1≠b) :
 Inv X pins σ H' {s with heap:=h',gens:=g',drawn:=d',toks:=t'}:=by
 obtain⟨m,⟨o,es,ep,ho,r⟩,_⟩:=id I.loc
 obtain⟨sl,hL⟩:=u.any ho I.free fun z=>(hch _ z).2.1 rfl
 exact I.step (ch:=ch) hch (fun b o hL hb hc e n=>u.keep b o e n (fun z=>(List.mem_cons.mp (I.uw b z)).elim hL hb) hc) (fun b o _ _ hc e n=>u.any e n hc) (fun b o hc e n=>u.free b o e n hc) (fun b o hc e=>u.there b o e hc) u.tups u.frzs u.tbls (fun m' hm=>by
  obtain⟨o',es',ep',ho',r'⟩:=hm
  rw[ho] at ho';cases ho'
  exact⟨_,es',ep',hL,r'⟩) hok hg
theorem Inv.turned{t':Nat}{it:Addr}(I:Inv X pins σ H s)(k:∀b o,b≠it→s.heap.get? b=some o→h'.get? b=some o)(hn:H it=none)(hL:it≠X.env.locals)
 (h1:it∈X.ex∨X.s₀.heap.objs.size≤it) (h2:∀x c,X.env.cells.lookup x=some c→c≠it) (h3:∀p∈X.pn++pins,p.1≠it):Inv X pins σ H {s with heap:=h',toks:=t'}:=by
 have nit:∀b u,H b=some u→b≠it:=fun b u e z=>by rw[z,hn] at e;cases e
 refine I.step (g':=s.gens) (d':=s.drawn) (ch:=[it]) (fun b hb=>?_) (fun b o _ _ hc e _=>k b o (fun z=>hc (by simp [z])) e) (fun b o _ _ hc e _=>⟨o.slots,k b o (fun z=>hc (by simp [z])) e⟩) (fun _ _ _ _ n=>n)
  (fun b o hc e=>⟨o,k b o (fun z=>hc (by simp [z])) e⟩) (fun _ _ e=>e) (fun _ _ _ e=>e) (fun b ps e=>⟨#[],by rw[e];simp⟩) (fun m hm=>?_) (fun b u e=>?_) I.bare
 ·have e:b=it:=by simpa using hb
  subst e
  exact⟨h1,hL,h2,h3⟩
 ·obtain⟨o,es,ep,ho,r⟩:=hm
  exact⟨o,es,ep,k _ o (Ne.symm hL) ho,r⟩
 ·refine(I.hok b u e).ua (fun c v hc q=>k c v ?_ q) (fun _ q=>q) fun _ _ q=>q
  rcases hc with z | z
  ·rw[z];exact nit b u e
  ·exact nit c _ z
theorem Inv.tok(I:Inv X pins σ H s)(t:Nat):Inv X pins σ H {s with toks:=t}:=I.un (h':=s.heap) (t':=t) Un.refl I.hok
theorem Inv.kept{t':Nat}(I:Inv X pins σ H s)(k:∀b u,s.heap.get? b=some u→h'.get? b=some u):Inv X pins σ H {s with heap:=h',toks:=t'}:=I.un (Un.kept k) (I.hok.kept k)
theorem Inv.laid{a:Addr}{o:HO}{t':Nat}(I:Inv X pins σ H s)(k:∀b u,s.heap.get? b=some u→h'.get? b=some u)(hp:s.heap.objs.size≤a)(new:dj X.prog X.w (upd H a o) h' a o) :
 Inv X pins σ (upd H a o) {s with heap:=h',toks:=t'}:=I.un (Un.laid k hp (I.hok.fresh hp)) (I.hok.laid k hp new)
theorem Inv.write{x e:Addr}{o:HO}{t':Nat}(I:Inv X pins σ H s)(mu:EJ (H x))(he:e=x∨H e=some (.own x))(k:∀b u,b≠e→s.heap.get? b=some u→h'.get? b=some u)(heo:∃u,h'.get? e=some u)
 (new:dj X.prog X.w (upd H x o) h' x o):Inv X pins σ (upd H x o) {s with heap:=h',toks:=t'}:=I.un (Un.write mu he k heo) (I.hok.write mu he k heo new)
theorem Inv.vD{pins':List (Addr × Obj)}(I:Inv X pins σ H s)(h:∀p∈pins',s.heap.get? p.1=some p.2∧H p.1=none∧p.1≠X.env.locals∧p.1 ∉ X.fs∧∀v,p.2.data≠ .cell v):Inv X pins' σ H s:=
 ⟨I.ok,I.os,I.bare,I.base,I.loc,I.cell,I.free,I.freeC,fun p hp=>(List.mem_append.mp hp).elim (fun z=>I.pin p (List.mem_append_left _ z)) (h p),I.hok,I.len⟩
theorem rX{N:List Str}(hN:N.Nodup){i j:Nat}{x:Str}(a:N[i]? =some x)(b:N[j]? =some x):i=j:=by
 obtain⟨h1,e1⟩:=List.getElem?_eq_some_iff.mp a
 obtain⟨h2,e2⟩:=List.getElem?_eq_some_iff.mp b
 exact(List.getElem_inj hN).mp (e1.trans e2.symm)
theorem o_{M:Model}{A:Around}{E:Value→Shared→Prop}{i:Nat}{x:Str}{v:V}{u:Value}{Q:Unit→Shared→Prop}(I:Inv X pins σ H s)(hN:X.N.Nodup)(hi:X.N[i]? =some x)(hx:Loc X.env.scope x)(r:RelV v u)
 (h:∀s',Inv X pins (σ.set i (some v)) H s'→(∃a,Heap.SameBut a s.heap s'.heap∧(a=X.env.locals∨X.env.cells.lookup x=some a))→Q () s') (hf:X.fn x=true∨X.env.scope.names.lookup x=some .local:=by first | exact .inl rfl | exact .inr rfl | assumption):wpAny M A (storeName X.env x u) Q E s:=by
 obtain⟨m,hn,hl⟩:=id I.loc
 have hcls:(X.env.scope.kind== .class || (X.env.scope.kind== .module && X.env.locals !=X.env.globals))=false:=by rw[I.ok.kind];rfl
 have hiσ:i < σ.length:=by rw[I.len];exact(List.getElem?_eq_some_iff.mp hi).1
 have Dz:=I.Dz
 have tracked:∀{a:Addr} {h':Heap},(∃o,s.heap.get? a=some o∧H a=none)→Heap.SameBut a s.heap h'→ky X.prog X.w H h':=fun {a h'} ha hs b ob e=>by
  obtain⟨_,_,hfree⟩:=ha
  refine(I.hok b ob e).ua (fun c w' hc q=>(hs.2 c ?_).trans q) (fun _ q=>q) fun _ _ q=>q
  rintro rfl
  rcases hc with rfl | hc
  ·rw[hfree] at e;cases e
  ·rw[hfree] at hc;cases hc
 rcases hx with hk | hk
 ·refine wpAny_storeName_local hk hn (fun h' hn' hs=>?_) hcls
  obtain⟨oL,_,_,hoL,_⟩:=id hn
  refine h _ ⟨I.ok,I.os,I.bare,⟨fun b o e n hb hx=>?_,fun b o e n hb hx=>?_,I.base.free,fun b o e hx=>?_,I.base.tups,I.base.frzs,I.base.tbls⟩,⟨_,hn',fun j y v' e1 e2 e3=>?_⟩,fun y c e=>?_,I.free,I.freeC,fun p hp=>?_,tracked ⟨oL,hoL,I.free⟩ hs,by simpa using I.len⟩ ⟨_,hs, .inl rfl⟩
  ·exact(hs.2 b (Nat.ne_of_lt (Nat.lt_of_lt_of_le (Heap.lt_size e) I.ok.above))).trans (I.base.keep b o e n hb hx)
  ·obtain⟨sl,e1⟩:=I.base.slot b o e n hb hx
   exact⟨sl,(hs.2 b (Nat.ne_of_lt (Nat.lt_of_lt_of_le (Heap.lt_size e) I.ok.above))).trans e1⟩
  ·obtain⟨o',e1⟩:=I.base.there b o e hx
   exact⟨o',(hs.2 b (Nat.ne_of_lt (Nat.lt_of_lt_of_le (Heap.lt_size e) I.ok.above))).trans e1⟩
  ·by_cases hj:j=i
   ·subst hj
    rw[hi] at e1;cases e1
    rw[List.getElem?_set_self hiσ] at e2
    cases e2
    exact⟨u,r, .inl ⟨hk,by simp⟩⟩
   ·rw[List.getElem?_set_ne (Ne.symm hj)] at e2
    obtain⟨u',r',q⟩:=hl j y v' e1 e2 e3
    refine⟨u',r',?_⟩
    rcases q with⟨k,e⟩ | ⟨k,c,e,z⟩
    ·refine .inl ⟨k,?_⟩
     have:y≠x:=fun e=>hj (rX hN e1 (e▸hi))
     simp [this,e]
    ·exact .inr ⟨k,c,e,z.sameBut hs (Dz y c e)⟩
  ·obtain⟨w',z⟩:=I.cell y c e
   exact⟨w',z.sameBut hs (Dz y c e)⟩
  ·obtain⟨e,n,ne,nf,d⟩:=I.pin p hp
   exact⟨(hs.2 p.1 ne).trans e,n,ne,nf,d⟩
 ·have hfn:X.fn x=true:=by
   rcases hf with z | z
   ·exact z
   ·rw[z] at hk;cases hk
  obtain⟨c,hc⟩:=I.ok.has x (.inl hk)
  obtain⟨w',z⟩:=I.cell x c hc
  refine wpAny_storeName_cell I.ok.kind hk hc z (fun h' hc' hs=>?_)
  obtain⟨oc,hoc,hocd⟩:=id z
  refine h {s with heap:=h'} ⟨I.ok,I.os,I.bare,⟨fun b o e n hb hx=>?_,fun b o e n hb hx=>?_,I.base.free,fun b o e hx=>?_,I.base.tups,I.base.frzs,I.base.tbls⟩,⟨m,hn.sameBut hs (Ne.symm (Dz x c hc)),fun j y v' e1 e2 e3=>?_⟩,fun y c' e=>?_,I.free,I.freeC,fun p hp=>?_,tracked ⟨oc,hoc,I.freeC x c hc⟩ hs,by simpa using I.len⟩ ⟨c,hs, .inr hc⟩
  ·exact(hs.2 b (Nat.ne_of_lt (Nat.lt_of_lt_of_le (Heap.lt_size e) (I.ok.cab x c hfn hc)))).trans (I.base.keep b o e n hb hx)
  ·obtain⟨sl,e1⟩:=I.base.slot b o e n hb hx
   exact⟨sl,(hs.2 b (Nat.ne_of_lt (Nat.lt_of_lt_of_le (Heap.lt_size e) (I.ok.cab x c hfn hc)))).trans e1⟩
  ·obtain⟨o',e1⟩:=I.base.there b o e hx
   exact⟨o',(hs.2 b (Nat.ne_of_lt (Nat.lt_of_lt_of_le (Heap.lt_size e) (I.ok.cab x c hfn hc)))).trans e1⟩
  ·by_cases hj:j=i
   ·subst hj
    rw[hi] at e1;cases e1
    rw[List.getElem?_set_self hiσ] at e2
    cases e2
    exact⟨u,r, .inr ⟨.inl hk,c,hc,hc'⟩⟩
   ·rw[List.getElem?_set_ne (Ne.symm hj)] at e2
    obtain⟨u',r',q⟩:=hl j y v' e1 e2 e3
    refine⟨u',r',?_⟩
    rcases q with q | ⟨k,c',e,z'⟩
    ·exact .inl q
    ·refine .inr ⟨k,c',e,z'.sameBut hs ?_⟩
     rintro rfl
     exact hj (rX hN e1 (I.ok.inj _ _ _ e hc▸hi))
  ·by_cases hcc:c'=c
   ·subst hcc;exact⟨_,hc'⟩
   ·obtain⟨w2,z2⟩:=I.cell y c' e
    exact⟨w2,z2.sameBut hs hcc⟩
  ·obtain⟨e,n,ne,nf,d⟩:=I.pin p hp
   refine⟨(hs.2 p.1 ?_).trans e,n,ne,nf,d⟩
   intro q
   rw[q,hoc] at e
   have q':oc=p.2:=Option.some.inj e
   exact d w' (by rw[←q'];exact hocd)
theorem sO{M:Model}{A:Around}{E:Value→Shared→Prop}{i:Nat}{x:Str}{v:V}{u:Value}{Q:Unit→Shared→Prop}(I:Inv X pins σ H s)(hN:X.N.Nodup)(hi:X.N[i]? =some x)(hx:Loc X.env.scope x)(r:RelV v u)
 (h:∀s',Inv X pins (σ.set i (some v)) H s'→Q () s') (hf:X.fn x=true∨X.env.scope.names.lookup x=some .local:=by first | exact .inl rfl | exact .inr rfl | assumption):wpAny M A (storeName X.env x u) Q E s:=
 o_ I hN hi hx r (fun s' I' _=>h s' I') hf
theorem Inv.EU{s':Shared}{ch:List Addr}(I:Inv X pins σ H s)(ho:s'.os=s.os)(u:Un (xh X.stack) ch H H' s.heap s'.heap)(hok:ky X.prog X.w H' s'.heap)(hg:AllBare s'.gens)
 (hch:∀b∈ch,(b∈X.ex∨X.s₀.heap.objs.size≤b)∧b≠X.env.locals∧(∀x c,X.env.cells.lookup x=some c→c≠b)∧∀p∈X.pn++pins,p.1≠b):Inv X pins σ H' s':=by
 obtain⟨h',g',d',t',o'⟩:=s'
 have e:o'=s.os:=ho
 subst e
 exact I.call (g':=g') (t':=t') (d':=d') u hok hg hch
end
noncomputable abbrev XK:=Value→Option Addr→Hp→Prop
noncomputable abbrev St:=List (Option V)
noncomputable abbrev VK:=V→Hp→Prop
noncomputable abbrev TE:=St→Hp→VK→Prop
noncomputable abbrev TT:=St→Hp→(Bool→Hp→Prop)→Prop
noncomputable abbrev TA:=St→Hp→(List V→Hp→Prop)→Prop
structure Ends where
 nx:St→Hp→Prop
 rt:VK
 bk:St→Hp→Prop:=fun _ _=>False
 ct:St→Hp→Prop:=fun _ _=>False
noncomputable abbrev TS:=Ends→St→Hp→Prop
noncomputable def EP(X:Cx)(pins:List (Addr × Obj))(σ:St)(Q:VK)(u:Value)(s':Shared):Prop:=∃v H',Inv X pins σ H' s'∧RelV v u∧Q v H'
noncomputable def TP(X:Cx)(pins:List (Addr × Obj))(σ:St)(Q:Bool→Hp→Prop)(b:Bool)(s':Shared):Prop:=∃H',Inv X pins σ H' s'∧Q b H'
noncomputable def AP(X:Cx)(pins:List (Addr × Obj))(σ:St)(Q:List V→Hp→Prop)(us:List Value)(s':Shared):Prop:=∃vs H',Inv X pins σ H' s'∧Vals vs us∧Q vs H'
noncomputable def SP(X:Cx)(pins:List (Addr × Obj))(D:Ends)(f:Flow)(s':Shared):Prop:=
 match f with
 | .next=>∃σ' H',Inv X pins σ' H' s'∧D.nx σ' H'
 | .brk=>∃σ' H',Inv X pins σ' H' s'∧D.bk σ' H'
 | .cont=>∃σ' H',Inv X pins σ' H' s'∧D.ct σ' H'
 | .ret u=>∃v σ' H',Inv X pins σ' H' s'∧RelV v u∧D.rt v H'
noncomputable def PE(X:Cx)(e:Expr)(t:TE):Prop:=
 ∀(pins:List (Addr × Obj)) (s:Shared) (σ:St) (H:Hp) (Q:VK),Inv X pins σ H s→t σ H Q→wpAny (model X.prog X.w) X.A (eval e X.env) (EP X pins σ Q) X.xe s
noncomputable def PT(X:Cx)(e:Expr)(t:TT):Prop:=
 ∀(pins:List (Addr × Obj)) (s:Shared) (σ:St) (H:Hp) (Q:Bool→Hp→Prop),Inv X pins σ H s→t σ H Q→wpAny (model X.prog X.w) X.A (isTrue e X.env (eval e X.env)) (TP X pins σ Q) X.xe s
noncomputable def PW(X:Cx)(e:Expr)(t:TT):Prop:=
 ∀(whole:Sem Value) (pins:List (Addr × Obj)) (s:Shared) (σ:St) (H:Hp) (Q:Bool→Hp→Prop),Inv X pins σ H s→t σ H Q→wpAny (model X.prog X.w) X.A (isTrue e X.env whole) (TP X pins σ Q) X.xe s
theorem PW.pt{X:Cx}{e:Expr}{t:TT}(h:PW X e t):PT X e t:=h _
noncomputable def PA(X:Cx)(es:List Expr)(t:TA):Prop:=
 ∀(pos:Pos) (pins:List (Addr × Obj)) (s:Shared) (σ:St) (H:Hp) (Q:List V→Hp→Prop),Inv X pins σ H s→t σ H Q→wpAny (model X.prog X.w) X.A (spliced (backTo pos (starEach es X.env))) (AP X pins σ Q) X.xe s
noncomputable def PS(X:Cx)(st:Stmt)(t:TS):Prop:=
 ∀(pins:List (Addr × Obj)) (s:Shared) (σ:St) (H:Hp) (D:Ends),Inv X pins σ H s→t D σ H→wpAny (model X.prog X.w) X.A (exec st X.env) (SP X pins D) X.xe s
noncomputable def qS(X:Cx)(st:List Stmt)(t:TS):Prop:=
 ∀(pins:List (Addr × Obj)) (s:Shared) (σ:St) (H:Hp) (D:Ends),Inv X pins σ H s→t D σ H→wpAny (model X.prog X.w) X.A (execs st X.env) (SP X pins D) X.xe s
theorem dg{α:Type}{t:Sem α}{Q Q':α→Shared→Prop}{M:Model}{A:Around}{E:Value→Shared→Prop}{s:Shared}(h:wpAny M A t Q E s)(hQ:∀a s,Q a s→Q' a s):wpAny M A t Q' E s:=wpAny_mono h hQ fun _ _ x=>x
end L2
namespace L2
open PySem PySem.Spec PyProof.Rows
section
variable {X:Cx}
noncomputable def G6(i:Nat):TE:=fun σ H Q=>∃v,σ[i]? =some (some v)∧Q v H
noncomputable def tC(v:V):TE:=fun _ H Q=>Q v H
theorem tS{i:Nat}{x:Str}{pos:Pos}(hN:X.N[i]? =some x)(hv:D9 X.env.scope x)(hd:(x==("__debug__":Str))=false:=by decide)(hcd:(x==("__classdict__":Str))=false:=by decide):PE X (.Name x pos) (G6 i):=by
 intro pins s σ H Q I h
 obtain⟨v,e,h⟩:=h
 obtain⟨m,hn,hl⟩:=I.loc
 obtain⟨u,r,l⟩:=hl i x v hN e hv
 have fin:EP X pins σ Q u s:=⟨v,H,I,r,h⟩
 rcases l with⟨hk,hm⟩ | ⟨hk,c,hc,hcell⟩
 ·exact wpAny_Name (wpAny_loadName_local I.ok.kind hk hn hm fin) hd
 ·rcases hk with hk | hk
  ·exact wpAny_Name (wpAny_loadName_cell I.ok.kind hk hc hcell fin) hd
  ·exact wpAny_Name (wpAny_loadName_free I.ok.kind hk hc hcell fin hcd) hd
theorem nV{i j pos}:PE X (.Constant (.int i) j pos) (tC (.int i)):=fun _ _ _ H _ I h=>wpAny_Constant_int ⟨.int i,H,I.tok _,⟨_,rfl⟩,h⟩
theorem FW{b j pos}:PE X (.Constant (.bool b) j pos) (tC (.bl b)):=fun _ _ _ H _ I h=>Constant_bool ⟨.bl b,H,I,rfl,h⟩
theorem DS{j pos}:PE X (.Constant .none j pos) (tC .cD):=fun _ _ _ H _ I h=>Constant_none ⟨.cD,H,I,rfl,h⟩
theorem oi{x j pos}:PE X (.Constant (.str x) j pos) (tC (.str x)):=fun _ _ _ H _ I h=>Calls.Constant_str ⟨.str x,H,I.tok _,⟨_,rfl⟩,h⟩
noncomputable def Gl(X:Cx)(x:Str):Prop:=X.env.kindOf x=some .globalImplicit
theorem u9{E:Value→Shared→Prop}{pins:List (Addr × Obj)}{s:Shared}{σ:St}{H:Hp}{x:Str}{u:Value}{pos:Pos}{Q:Value→Shared→Prop}(I:Inv X pins σ H s)(hg:Gl X x)(hm:X.mg x=some u)(h:Q u s)
 (hd:(x==("__debug__":Str))=false:=by decide):wpAny (model X.prog X.w) X.A (eval (.Name x pos) X.env) Q E s:=
 Calls.Name_function_global I.ok.kind hg (Calls.loadGlobal_global (by rw[I.ok.glob];exact I.mod.glob.keeps I.bk) hm h) hd
theorem jy{E:Value→Shared→Prop}{pins:List (Addr × Obj)}{s:Shared}{σ:St}{H:Hp}{x:Str}{u:Value}{pos:Pos}{Q:Value→Shared→Prop}(I:Inv X pins σ H s)(hg:Gl X x)(hm:X.mg x=none)(hv:bootBuiltins x=some u)(h:Q u s)
 (hn:x≠"__name__":=by decide) (hd:(x==("__debug__":Str))=false:=by decide):wpAny (model X.prog X.w) X.A (eval (.Name x pos) X.env) Q E s:=by
 obtain⟨mb,h1,h2⟩:=I.mod.blt
 exact Calls.Name_function_global I.ok.kind hg (Calls.loadGlobal_builtin (by rw[I.ok.glob];exact I.mod.glob.keeps I.bk) hm (by rw[I.ok.blt];exact h1.keeps I.bk) ((h2 x hn).trans hv) h) hd
theorem Ah{x:Str}{v:V}{u:Value}{pos:Pos}(hg:Gl X x)(hm:X.mg x=none)(hv:bootBuiltins x=some u)(r:RelV v u)(hn:x≠"__name__":=by decide)(hd:(x==("__debug__":Str))=false:=by decide):PE X (.Name x pos) (tC v):=
 fun _ _ _ H _ I h=>jy I hg hm hv ⟨v,H,I,r,h⟩ hn hd
noncomputable def F_(ta tb:TE)(k:Int→Int→Hp→Prop):St→Hp→Prop:=fun σ H=>ta σ H fun x H1=>tb σ H1 fun y H2=>∃i j,x= .int i∧y= .int j∧k i j H2
noncomputable def Ji(ta tb:TE):TE:=fun σ H Q=>F_ ta tb (fun i j H2=>Q (.int (i+j)) H2) σ H
noncomputable def HW(ta tb:TE):TE:=fun σ H Q=>F_ ta tb (fun i j H2=>Q (.int (i - j)) H2) σ H
noncomputable def Jm(ta tb:TE):TE:=fun σ H Q=>F_ ta tb (fun i j H2=>(-(2 ^ 64) < i∧i < 2 ^ 64)∧Q (.int (i*j)) H2) σ H
variable {a b:Expr} {ta tb:TE} {pos:Pos}
noncomputable def PC(X:Cx)(op:CmpOp)(a b:Expr)(t:TE):Prop:=
 ∀(pins:List (Addr × Obj)) (s:Shared) (σ:St) (H:Hp) (Q:VK),Inv X pins σ H s→t σ H Q→
  wpAny (model X.prog X.w) X.A (eval a X.env) (fun v s₁=>wpAny (model X.prog X.w) X.A (eval b X.env) (fun u s₂=>wpAny (model X.prog X.w) X.A (compareOp op v u) (EP X pins σ Q) X.xe s₂) X.xe s₁) X.xe s
noncomputable def wM(p:Int→Int→Bool)(ta tb:TE):TE:=fun σ H Q=>F_ ta tb (fun i j H2=>Q (.bl (p i j)) H2) σ H
noncomputable abbrev Jv:TE→TE→TE:=wM fun i j=>decide (i < j)
noncomputable abbrev JJ:TE→TE→TE:=wM fun i j=>decide (i≤j)
noncomputable abbrev JH:TE→TE→TE:=wM fun i j=>decide (j < i)
noncomputable abbrev Jr:TE→TE→TE:=wM fun i j=>decide (j≤i)
noncomputable abbrev Je:TE→TE→TE:=wM fun i j=>decide (i=j)
noncomputable abbrev IK:TE→TE→TE:=wM fun i j=>!decide (i=j)
noncomputable def Ib(ta:TE):TE:=fun σ H Q=>ta σ H fun x H1=>Q (.bl (decide (x= .cD))) H1
noncomputable def Hd(ta:TE):TE:=fun σ H Q=>ta σ H fun x H1=>Q (.bl (!decide (x= .cD))) H1
noncomputable def tB(t:TE):TT:=fun σ H Q=>t σ H fun x H1=>∃c,x= .bl c∧Q c H1
variable {tA tB':TT} {rest:List Expr}
noncomputable def GW(t u:TT):TT:=fun σ H Q=>t σ H fun c H1=>if c=true then u σ H1 Q else Q false H1
noncomputable def Jd(t u:TT):TT:=fun σ H Q=>t σ H fun c H1=>if c=true then Q true H1 else u σ H1 Q
noncomputable def Gw(t:TT):TT:=fun σ H Q=>t σ H fun c H1=>Q (!c) H1
theorem uW(ha:PT X a tA):PW X (.BoolOp .And [a] pos) tA:=by
 intro wh pins s σ H Q I h
 refine isTrue_and (dg (ha pins s σ H Q I h) fun c s1 e=>?_)
 cases c with
 | true=>exact isTrue_and_nil e
 | false=>exact e
theorem zt(ha:PT X a tA):PW X (.BoolOp .Or [a] pos) tA:=by
 intro wh pins s σ H Q I h
 refine isTrue_or (dg (ha pins s σ H Q I h) fun c s1 e=>?_)
 cases c with
 | false=>exact isTrue_or_nil e
 | true=>exact e
theorem y3(ha:PT X a tA)(hb:PW X (.BoolOp .And (b ::rest) pos) tB'):PW X (.BoolOp .And (a ::b ::rest) pos) (GW tA tB'):=by
 intro wh pins s σ H Q I h
 refine isTrue_and (dg (ha pins s σ H _ I h) fun c s1 ⟨H1,I1,q1⟩=>?_)
 cases c with
 | true=>exact hb wh pins s1 σ H1 Q I1 q1
 | false=>exact⟨H1,I1,q1⟩
theorem BP(ha:PT X a tA)(hb:PW X (.BoolOp .Or (b ::rest) pos) tB'):PW X (.BoolOp .Or (a ::b ::rest) pos) (Jd tA tB'):=by
 intro wh pins s σ H Q I h
 refine isTrue_or (dg (ha pins s σ H _ I h) fun c s1 ⟨H1,I1,q1⟩=>?_)
 cases c with
 | true=>exact⟨H1,I1,q1⟩
 | false=>exact hb wh pins s1 σ H1 Q I1 q1
theorem CG(ha:PT X a tA):PT X (.UnaryOp .Not a pos) (Gw tA):=by
 intro pins s σ H Q I h
 exact isTrue_not (ha pins s σ H (fun c H1=>Q (!c) H1) I h)
noncomputable def Hv(ta tb:TE):TE:=fun σ H Q=>ta σ H fun x H1=>∃c,x= .bl c∧if c=true then tb σ H1 Q else Q (.bl false) H1
noncomputable def IG(ta tb:TE):TE:=fun σ H Q=>ta σ H fun x H1=>∃c,x= .bl c∧if c=true then Q (.bl true) H1 else tb σ H1 Q
noncomputable def HJ(ta:TE):TE:=fun σ H Q=>ta σ H fun x H1=>∃c,x= .bl c∧Q (.bl (!c)) H1
noncomputable def IJ(t:TT)(ta tb:TE):TE:=fun σ H Q=>t σ H fun c H1=>if c=true then ta σ H1 Q else tb σ H1 Q
theorem xN{c:Expr}(hc:PT X c tA)(ha:PE X a ta)(hb:PE X b tb):PE X (.IfExp c a b pos) (IJ tA ta tb):=by
 intro pins s σ H Q I h
 refine wpAny_IfExp (dg (hc pins s σ H _ I h) fun d s1 ⟨H1,I1,q1⟩=>?_)
 cases d with
 | true=>exact ha pins s1 σ H1 Q I1 q1
 | false=>exact hb pins s1 σ H1 Q I1 q1
end
end L2
namespace L2
open PySem PySem.Spec PyProof.Rows
noncomputable def k3(K:PySem.W.Frag)(H:Hp)(a:Addr)(xs:List V):Prop:=
 Rd H a (.lst xs)∨
  ∃(o:Obj) (its:Array Value) (n:Nat),K.lookup a=some o∧o.cls= .type "list"∧o.dict=none∧o.data= .seq its n∧its.size≤sizeLine∧Vals xs its.toList
noncomputable def mz(K:PySem.W.Frag)(H:Hp)(a:Addr)(xs:List V):Prop:=
 Rd H a (.tup xs)∨
  ∃(o:Obj) (its:Array Value) (n:Nat),K.lookup a=some o∧o.cls= .type "tuple"∧o.data= .seq its n∧its.size≤sizeLine∧Vals xs its.toList
noncomputable def GV:Value→Option V
 | .none=>some .cD
 | .bool b=>some (.bl b)
 | .int i _=>some (.int i)
 | .str x _=>some (.str x)
 | .bytes b _=>some (.byt b)
 | .float b _=>some (.flt b)
 | .ref a=>some (.ref a)
 | .type n=>some (.ty n)
 | _=>none
theorem RelV.abs{x:V}{u:Value}(r:RelV x u):GV u=some x:=by
 cases x with
 | cD=>cases r;rfl
 | bl _=>cases r;rfl
 | int _=>obtain⟨t,rfl⟩:=r;rfl
 | str _=>obtain⟨t,rfl⟩:=r;rfl
 | byt _=>obtain⟨t,rfl⟩:=r;rfl
 | flt _=>obtain⟨t,rfl⟩:=r;rfl
 | ref _=>cases r;rfl
 | ty _=>cases r;rfl
theorem RelV.inj{x y:V}{u:Value}(r:RelV x u)(q:RelV y u):x=y:=Option.some.inj (r.abs.symm.trans q.abs)
theorem Vals.inj:∀{xs ys:List V} {us:List Value},Vals xs us→Vals ys us→xs=ys
 | _,_,_, .nil, .nil=>rfl
 | _,_,_, .cons r t, .cons r' t'=>by rw[r.inj r',Vals.inj t t']
section
variable {X:Cx} {pins:List (Addr × Obj)} {σ:St} {H:Hp} {s:Shared} {a:Addr} {xs ys:List V}
theorem k3.of{K:PySem.W.Frag}(h:H a=some (.lst xs)):k3 K H a xs:= .inl (.inl h)
theorem Inv.list(I:Inv X pins σ H s)(h:k3 X.K H a xs):∃its:List Value,Vals xs its∧PlainL s.heap a its.toArray∧xs.length≤sizeLine:=by
 rcases h with h | ⟨o,its,n,hk,hc,hd,hs,hz,r⟩
 ·obtain⟨z,its,n,r,e⟩:=h.ok I.hok
  exact⟨its,r,⟨_,n,e,rfl,rfl,rfl⟩,z⟩
 ·refine⟨its.toList,r,⟨o,n,I.lJ a o hk,hc,hd,by simpa using hs⟩,?_⟩
  have e:=r.length
  simp only[Array.length_toList] at e
  omega
theorem Inv.tuple(I:Inv X pins σ H s)(h:mz X.K H a xs):∃its:List Value,Vals xs its∧IsTup s.heap a its.toArray∧xs.length≤sizeLine:=by
 rcases h with h | ⟨o,its,n,hk,hc,hs,hz,r⟩
 ·obtain⟨z,its,r,p⟩:=h.ok I.hok
  exact⟨its,r,p,z⟩
 ·refine⟨its.toList,r,⟨o,I.lJ a o hk,hc,n,by simpa using hs⟩,?_⟩
  have e:=r.length
  simp only[Array.length_toList] at e
  omega
theorem Inv.om(I:Inv X pins σ H s)(h:k3 X.K H a xs)(h':k3 X.K H a ys):xs=ys:=by
 obtain⟨its,r,⟨o,n,e,_,_,d⟩,_⟩:=I.list h
 obtain⟨its',r',⟨o',n',e',_,_,d'⟩,_⟩:=I.list h'
 rw[e] at e';cases e'
 rw[d] at d'
 injection d' with d1 _
 have:its=its':=by simpa using congrArg Array.toList d1
 subst this
 exact r.inj r'
theorem Inv.pO(I:Inv X pins σ H s)(h:mz X.K H a xs)(h':mz X.K H a ys):xs=ys:=by
 obtain⟨its,r,⟨o,e,_,n,d⟩,_⟩:=I.tuple h
 obtain⟨its',r',⟨o',e',_,n',d'⟩,_⟩:=I.tuple h'
 rw[e] at e';cases e'
 rw[d] at d'
 injection d' with d1 _
 have:its=its':=by simpa using congrArg Array.toList d1
 subst this
 exact r.inj r'
end
noncomputable abbrev Cx.oW(X:Cx)(E:Value→Shared→Prop):Cx:={X with xe:=E}
noncomputable abbrev Cx.A2(X:Cx):Cx:=X.oW fun _ _=>False
theorem Cx.Ok.oW{X:Cx}(ok:X.Ok)(E:Value→Shared→Prop):(X.oW E).Ok:=
 ⟨ok.mod,ok.kind,ok.glob,ok.blt,ok.above,ok.inj,ok.has,ok.cab,ok.hd,ok.frames,ok.stk,ok.exf,ok.bs,ok.bsz,ok.noex,ok.exfs,ok.mK,ok.frf⟩
theorem Cx.Ok.jL{X:Cx}{E:Value→Shared→Prop}(ok:(X.oW E).Ok):X.Ok:=
 ⟨ok.mod,ok.kind,ok.glob,ok.blt,ok.above,ok.inj,ok.has,ok.cab,ok.hd,ok.frames,ok.stk,ok.exf,ok.bs,ok.bsz,ok.noex,ok.exfs,ok.mK,ok.frf⟩
section
variable {X:Cx} {pins:List (Addr × Obj)} {σ:St} {H:Hp} {s:Shared} {E:Value→Shared→Prop}
theorem Inv.oW(I:Inv X pins σ H s)(E:Value→Shared→Prop):Inv (X.oW E) pins σ H s:=⟨I.ok.oW E,I.os,I.bare,I.base,I.loc,I.cell,I.free,I.freeC,I.pin,I.hok,I.len⟩
theorem Inv.jL(I:Inv (X.oW E) pins σ H s):Inv X pins σ H s:=⟨I.ok.jL,I.os,I.bare,I.base,I.loc,I.cell,I.free,I.freeC,I.pin,I.hok,I.len⟩
theorem SP.jL{D:Ends}{f:Flow}{s':Shared}(h:SP (X.oW E) pins D f s'):SP X pins D f s':=by
 cases f with
 | next=>obtain⟨σ',H',I,q⟩:=h;exact⟨σ',H',I.jL,q⟩
 | brk=>obtain⟨σ',H',I,q⟩:=h;exact⟨σ',H',I.jL,q⟩
 | cont=>obtain⟨σ',H',I,q⟩:=h;exact⟨σ',H',I.jL,q⟩
 | ret u=>obtain⟨v,σ',H',I,r,q⟩:=h;exact⟨v,σ',H',I.jL,r,q⟩
theorem qS.A2{st:List Stmt}{t:TS}(h:qS X.A2 st t):qS X st t:=fun pins s σ H D I hw=>
 wpAny_mono (h pins s σ H D (I.oW _) hw) (fun _ _ q=>q.jL) fun _ _ z=>False.elim z
end
section
variable {X:Cx} {st:Stmt} {rest:List Stmt} {t u:TS} {e:Expr} {te:TE} {pos:Pos}
noncomputable def EZ:TS:=fun D σ H=>D.nx σ H
noncomputable def Ez(t u:TS):TS:=fun D σ H=>t {D with nx:=u D} σ H
theorem uV:qS X [] EZ:=fun _ _ σ H _ I h=>wpAny_execs_nil ⟨σ,H,I,h⟩
theorem rE(h1:PS X st t)(h2:qS X rest u):qS X (st ::rest) (Ez t u):=by
 intro pins s σ H D I h
 refine wpAny_execs_cons (dg (h1 pins s σ H {D with nx:=u D} I h) fun f s1 q=>?_)
 cases f with
 | next=>
   obtain⟨σ',H',I',q⟩:=q
   exact h2 pins s1 σ' H' D I' q
 | ret v=>exact q
 | brk=>exact q
 | cont=>exact q
theorem vv(h1:PS X st t):qS X [st] t:=by
 intro pins s σ H D I h
 refine wpAny_execs_cons (dg (h1 pins s σ H D I h) fun f s1 q=>?_)
 cases f with
 | next=>exact wpAny_execs_nil q
 | ret v=>exact q
 | brk=>exact q
 | cont=>exact q
noncomputable def Gu:TS:=fun D σ H=>D.bk σ H
noncomputable def HS:TS:=fun D σ H=>D.ct σ H
theorem Inv.quiet{pins:List (Addr × Obj)}{σ:St}{H:Hp}{s:Shared}(I:Inv X pins σ H s):interactive X.env=false:=by simp [interactive,I.ok.kind]
noncomputable def EW(te:TE):TS:=fun D σ H=>te σ H fun _ H1=>D.nx σ H1
theorem vU(he:PE X e te)(hs:swapsWith e none pos.line X.env=pure false:=by rfl):PS X (.Expr e pos) (EW te):=by
 intro pins s σ H D I h
 exact wpAny_Expr_any (dg (he pins s σ H _ I h) fun v s1 ⟨x,H1,I1,r1,q1⟩=>⟨σ,H1,I1,q1⟩) I.quiet hs
noncomputable def GQ(te:TE):TS:=fun D σ H=>te σ H D.rt
theorem x9(he:PE X e te):PS X (.Return (some e) pos) (GQ te):=by
 intro pins s σ H D I h
 exact wpAny_Return_some (dg (he pins s σ H _ I h) fun v s1 ⟨x,H1,I1,r1,q1⟩=>⟨x,σ,H1,I1,r1,q1⟩)
noncomputable def HC:TS:=fun D _ H=>D.rt .cD H
noncomputable def GO(c:TT)(t u:TS):TS:=fun D σ H=>c σ H fun b H1=>if b=true then t D σ H1 else u D σ H1
theorem BF{c:Expr}{a b:List Stmt}{tc:TT}(hc:PT X c tc)(ha:qS X a t)(hb:qS X b u):PS X (.If c a b pos) (GO tc t u):=by
 intro pins s σ H D I h
 refine wpAny_If (dg (hc pins s σ H _ I h) fun d s1 ⟨H1,I1,q1⟩=>?_)
 cases d with
 | true=>exact ha pins s1 σ H1 D I1 q1
 | false=>exact hb pins s1 σ H1 D I1 q1
noncomputable def G1:TS:=fun _ _ _=>False
end
noncomputable abbrev TG:=V→St→Hp→(St→Hp→Prop)→Prop
noncomputable abbrev y4:=List V→St→Hp→(St→Hp→Prop)→Prop
noncomputable def PG(X:Cx)(target:Expr)(t:TG):Prop:=
 ∀(pins:List (Addr × Obj)) (s:Shared) (σ:St) (H:Hp) (v:V) (u:Value) (Q:St→Hp→Prop),Inv X pins σ H s→RelV v u→t v σ H Q→
  wpAny (model X.prog X.w) X.A (assign target X.env u) (fun _ s'=>∃σ' H',Inv X pins σ' H' s'∧Q σ' H') X.xe s
noncomputable def Bp(X:Cx)(ts:List Expr)(t:y4):Prop:=
 ∀(pins:List (Addr × Obj)) (s:Shared) (σ:St) (H:Hp) (vs:List V) (us:List Value) (Q:St→Hp→Prop),Inv X pins σ H s→Vals vs us→t vs σ H Q→
  wpAny (model X.prog X.w) X.A (assignInOrder ((assignEach ts X.env).map (·.2)) us) (fun _ s'=>∃σ' H',Inv X pins σ' H' s'∧Q σ' H') X.xe s
noncomputable abbrev AY:=V→V→V→Hp→(Hp→Prop)→Prop
noncomputable def En(X:Cx)(t:AY):Prop:=
 ∀(pins:List (Addr × Obj)) (s:Shared) (σ:St) (H:Hp) (o i v:V) (ov iv u:Value) (Q:Hp→Prop),Inv X pins σ H s→RelV o ov→RelV i iv→RelV v u→t o i v H Q→
  wpAny (model X.prog X.w) X.A (setItem ov iv u) (fun _ s'=>∃H',Inv X pins σ H' s'∧Q H') X.xe s
noncomputable abbrev Ga:=V→V→Hp→VK→Prop
noncomputable def JA(X:Cx)(op:Operator)(t:Ga):Prop:=
 ∀(pins:List (Addr × Obj)) (s:Shared) (σ:St) (H:Hp) (x y:V) (v u:Value) (Q:VK),Inv X pins σ H s→RelV x v→RelV y u→t x y H Q→
  wpAny (model X.prog X.w) X.A (inplaceOp op v u) (EP X pins σ Q) X.xe s
section
variable {X:Cx} {pos:Pos}
noncomputable def p8(i:Nat):TG:=fun v σ H Q=>Q (σ.set i (some v)) H
theorem vy{i:Nat}{x:Str}(hN:X.N.Nodup)(hi:X.N[i]? =some x)(hx:Loc X.env.scope x)(hf:X.fn x=true∨X.env.scope.names.lookup x=some .local:=by first | exact .inl rfl | exact .inr rfl | assumption):PG X (.Name x pos) (p8 i):=by
 intro pins s σ H v u Q I r h
 exact wpAny_assign_Name (sO I hN hi hx r (fun s' I'=>⟨_,H,I',h⟩) hf)
noncomputable def GG:y4:=fun vs σ H Q=>vs=[]∧Q σ H
noncomputable def Fc(t:TG)(u:y4):y4:=fun vs σ H Q=>∃v r,vs=v ::r∧t v σ H fun σ' H'=>u r σ' H' Q
theorem vx:Bp X [] GG:=by
 intro pins s σ H vs us Q I r h
 obtain⟨e,h⟩:=h
 subst e
 cases r
 exact assignInOrder_nil ⟨σ,H,I,h⟩
theorem qU{e:Expr}{es:List Expr}{t:TG}{u:y4}(h1:PG X e t)(h2:Bp X es u)
 (hs:(assignEach (e ::es) X.env).map (·.2)=assign e X.env ::(assignEach es X.env).map (·.2):=by rfl):Bp X (e ::es) (Fc t u):=by
 intro pins s σ H vs us Q I r h
 obtain⟨v,vr,e1,h⟩:=h
 subst e1
 cases r with
 | cons r rr=>
   rw[hs]
   refine assignInOrder_cons (dg (h1 pins s σ H _ _ _ I r h) fun _ s1 ⟨σ1,H1,I1,q1⟩=>?_)
   exact h2 pins s1 σ1 H1 _ _ Q I1 rr q1
noncomputable def GX(K:PySem.W.Frag)(n:Nat)(t:y4):TG:=fun v σ H Q=>∃a xs,v= .ref a∧mz K H a xs∧xs.length=n∧t xs σ H Q
theorem zH{es:List Expr}{k:Nat}{t:y4}{n:Nat}(hc:X.calm=true)(h:Bp X es t)
 (hn:(assignEach es X.env).length=n:=by rfl) (hst:(assignEach es X.env).findIdx? (·.1)=none:=by rfl):PG X (.Tuple es k pos) (GX X.K n t):=by
 intro pins s σ H v u Q I r hw
 obtain⟨a,xs,e1,hq,hl,hw⟩:=hw
 subst e1
 cases r
 obtain⟨its,rv,ht,hz⟩:=I.tuple hq
 refine assign_Tuple_tuple (I.ok.hd hc) ht (by simp [hn,←hl,rv.length]) hst fun h' hx=>?_
 have I1:Inv X pins σ H {s with heap:=h'}:=I.kept (t':=s.toks) fun b o e=>hx b o (Nat.ne_of_lt (Heap.lt_size e)) e
 exact h pins _ σ H xs _ Q I1 (by simpa using rv) hw
noncomputable def Ff(to ti:TE)(t:AY):TG:=fun v σ H Q=>to σ H fun o H1=>ti σ H1 fun i H2=>t o i v H2 fun H3=>Q σ H3
theorem qy{o i:Expr}{to ti:TE}{t:AY}(ho:PE X o to)(hi:PE X i ti)(hs:En X t)
 (ha:∀v,assign (.Subscript o i pos) X.env v=(do
   let ov ←holding [v] (eval o X.env)
   let iv ←holding [v,ov] (eval i X.env)
   standAt pos
   holding [v,ov,iv] (setItem ov iv v)
   release [v,ov,iv] []):=by intro _;rfl):PG X (.Subscript o i pos) (Ff to ti t):=by
 intro pins s σ H v u Q I r h
 rw[ha]
 refine wpAny_bind (wpAny_holding (dg (ho pins s σ H _ I h) fun ov s1 ⟨x,H1,I1,r1,q1⟩=>?_))
 refine wpAny_bind (wpAny_holding (dg (hi pins s1 σ H1 _ I1 q1) fun iv s2 ⟨y,H2,I2,r2,q2⟩=>?_))
 refine wpAny_bind (wpAny_standAt (wpAny_bind (wpAny_holding (dg (hs pins s2 σ H2 x y v ov iv u _ I2 r1 r2 r q2) fun _ s3 ⟨H3,I3,q3⟩=>?_))))
 exact wpAny_release ⟨σ,H3,I3,q3⟩
noncomputable def yr(te:TE)(g:TG):TS:=fun D σ H=>te σ H fun x H1=>g x σ H1 D.nx
theorem xF{tg e:Expr}{te:TE}{g:TG}(he:PE X e te)(hg:PG X tg g)(hs:swapsWithSole [tg] e pos.line X.env=pure false:=by rfl)(hw:swappedStores [tg] e X.env=pure none:=by rfl)
 (h1:(assignEach [tg] X.env).map (·.2)=[assign tg X.env]:=by rfl):PS X (.Assign [tg] e pos) (yr te g):=by
 intro pins s σ H D I h
 refine wpAny_Assign_stores (dg (he pins s σ H _ I h) fun v s1 ⟨x,H1,I1,r1,q1⟩=>?_) hs hw
 rw[h1]
 exact dg (hg pins s1 σ H1 x v _ I1 r1 q1) fun _ s2 q=>q
theorem yC{i:Nat}{x:Str}{e:Expr}{te:TE}{pos':Pos}(hN:X.N.Nodup)(hi:X.N[i]? =some x)(hx:Loc X.env.scope x)(he:PE X e te)(hs:swapsWith e (some (.Name x pos')) pos.line X.env=pure false:=by rfl)(hf:X.fn x=true∨X.env.scope.names.lookup x=some .local:=by first | exact .inl rfl | exact .inr rfl | assumption) :
 PS X (.Assign [.Name x pos'] e pos) (yr te (p8 i)):=by
 intro pins s σ H D I h
 refine wpAny_Assign_Name (dg (he pins s σ H _ I h) fun v s1 ⟨y,H1,I1,r1,q1⟩=>?_) hs
 exact sO I1 hN hi hx r1 (fun s2 I2=>⟨_,H1,I2,q1⟩) hf
noncomputable def IM(i j:Nat)(ta:TA):TS:=fun D σ H=>ta σ H fun vs H1=>∃v w,vs=[v,w]∧D.nx ((σ.set i (some v)).set j (some w)) H1
noncomputable def Jh(i:Nat)(te:TE)(ti:Ga):TS:=fun D σ H=>∃x,σ[i]? =some (some x)∧te σ H fun y H1=>ti x y H1 fun z H2=>D.nx (σ.set i (some z)) H2
noncomputable def HQ(to ti te:TE)(tget:V→V→Hp→VK→Prop)(tip:Ga)(tset:AY):TS:=fun D σ H=>to σ H fun o H1=>ti σ H1 fun i H2=>tget o i H2 fun x H3=>te σ H3 fun y H4=>tip x y H4 fun z H5=>tset o i z H5 fun H6=>D.nx σ H6
noncomputable def IA(X:Cx)(t:V→V→Hp→VK→Prop):Prop:=
 ∀(pins:List (Addr × Obj)) (s:Shared) (σ:St) (H:Hp) (o i:V) (ov iv:Value) (Q:VK),Inv X pins σ H s→RelV o ov→RelV i iv→t o i H Q→
  wpAny (model X.prog X.w) X.A (getItem ov iv) (EP X pins σ Q) X.xe s
noncomputable def JE(f:Int→Int→Int):Ga:=fun x y H Q=>∃i j,x= .int i∧y= .int j∧Q (.int (f i j)) H
end
section
variable {X:Cx} {pos:Pos}
noncomputable def Cw(c:TT)(tb:TS):TS:=fun D σ H=>∃W:Nat→St→Hp→Prop,(∃m,W m σ H)∧∀m σ H,W m σ H→
 c σ H fun b H1=>if b=true then ∃N:St→Hp→Prop,(∀σ' H',N σ' H'→∃m',m' < m∧W m' σ' H')∧tb {D with nx:=N,ct:=N,bk:=D.nx} σ H1 else D.nx σ H1
theorem ye{c:Expr}{body:List Stmt}{tc:TT}{tb:TS}(hp:PassesOwn (model X.prog X.w) X.A X.env X.xe)(hc:PT X c tc)(hb:qS X body tb):PS X (.While c body [] pos) (Cw tc tb):=by
 intro pins s σ H D I h
 obtain⟨W,⟨m0,w0⟩,turn⟩:=h
 refine wpAny_While (codeAny_whileLoop (fun n s'=>∃σ' H',Inv X pins σ' H' s'∧W n σ' H') ?_ m0 ⟨σ,H,I,w0⟩)
 rintro n s1 ⟨σ1,H1,I1,w1⟩
 refine wpAny_passesOwn hp (dg (hc pins s1 σ1 H1 _ I1 (turn n σ1 H1 w1)) fun b s2 ⟨H2,I2,q2⟩=>?_)
 cases b with
 | true=>
   obtain⟨N,hN,q2⟩:=q2
   rw[if_pos rfl]
   refine wpAny_passesOwn hp (dg (hb pins s2 σ1 H2 _ I2 q2) fun f s3 q3=>?_)
   cases f with
   | next=>
     obtain⟨σ3,H3,I3,n3⟩:=q3
     obtain⟨m',hm,w3⟩:=hN σ3 H3 n3
     exact⟨m',hm,σ3,H3,I3,w3⟩
   | cont=>
     obtain⟨σ3,H3,I3,n3⟩:=q3
     obtain⟨m',hm,w3⟩:=hN σ3 H3 n3
     exact⟨m',hm,σ3,H3,I3,w3⟩
   | brk=>exact q3
   | ret v=>exact q3
 | false=>
   rw[if_neg Bool.false_ne_true]
   exact wpAny_execs_nil ⟨σ1,H2,I2,q2⟩
end
structure It where
 go:Nat→Hp→Prop
 yld:Nat→Hp→V→Hp→Prop
 stop:Nat→Hp→Prop
noncomputable def mF(X:Cx)(pins:List (Addr × Obj))(H:Hp)(b:Addr):Prop:=
 H b=none∧b≠X.env.locals∧b ∉ X.fs∧(b∈X.ex∨X.s₀.heap.objs.size≤b)∧(∀x c,X.env.cells.lookup x=some c→c≠b)∧∀p∈X.pn++pins,p.1≠b
theorem Inv.oV{X:Cx}{pins:List (Addr × Obj)}{σ:St}{H H':Hp}{s:Shared}{b:Addr}(I:Inv X pins σ H s)(hb:s.heap.objs.size≤b)(hn:H' b=none):mF X pins H' b:=by
 refine⟨hn,Nat.ne_of_gt (Nat.lt_of_lt_of_le I.lt hb),I.G_ hb, .inr (Nat.le_trans I.sz hb),fun x c e z=>?_,fun p hp z=>?_⟩
 ·obtain⟨v,q⟩:=I.cell x c e
  exact absurd (Nat.lt_of_lt_of_le q.lt (by rw[z];exact hb)) (Nat.lt_irrefl _)
 ·exact absurd (Nat.lt_of_lt_of_le (Heap.lt_size (I.pin p hp).1) (by rw[z];exact hb)) (Nat.lt_irrefl _)
structure Turn (P:Program) (w:World) (K:PySem.W.Frag) (tg:Expr) (J:It) (fp:List Addr) (it:Addr) (tn:Nat→Heap→Prop):Prop where
 mem:it∈fp
 obj:∀i h,tn i h→∀b∈fp,∃o,h.get? b=some o∧∀v,o.data≠ .cell v
 keep:∀i h h',tn i h→(∀b∈fp,∀o,h.get? b=some o→h'.get? b=some o)→tn i h'
 item:∀(X:Cx),X.prog=P→X.w=w→X.K=K→X.calm=true→∀(i:Nat) (pins:List (Addr × Obj)) (s:Shared) (σ:St) (H:Hp) (E:Value→Shared→Prop),Inv X pins σ H s→(∀b∈fp,mF X pins H b)→tn i s.heap→J.go i H→
  wpAny (model P w) X.A (pyNext (.ref it)) (fun r s1=>∃u,r=some u∧
   wpAny (model P w) X.A (letOwnedTupleGo tg (.ref it) u) (fun _ s2=>∃x H',Inv X pins σ H' s2∧RelV x u∧J.yld i H x H'∧tn (i+1) s2.heap∧∀b∈fp,H' b=none) E s1) E s
 done:∀(X:Cx),X.prog=P→X.w=w→X.K=K→X.calm=true→∀(i:Nat) (pins:List (Addr × Obj)) (s:Shared) (σ:St) (H:Hp) (E:Value→Shared→Prop),Inv X pins σ H s→(∀b∈fp,mF X pins H b)→tn i s.heap→J.stop i H→
  wpAny (model P w) X.A (pyNext (.ref it)) (fun r s1=>r=none∧Inv X pins σ H s1) E s
 self:∀(A:Around) (i:Nat) (s:Shared) (Q:Value→Shared→Prop) (E:Value→Shared→Prop),tn i s.heap→Q (.ref it) s→wpAny (model P w) A (pyIter (.ref it)) Q E s
noncomputable abbrev TI:=St→Hp→(It→Hp→Prop)→Prop
noncomputable def HP(X:Cx)(pins:List (Addr × Obj))(σ:St)(tg:Expr)(R:It→Hp→Prop)(itv:Value)(s2:Shared):Prop:=
 ∃(it:Addr) (fp:List Addr) (tn:Nat→Heap→Prop) (J:It) (H':Hp),itv= .ref it∧Inv X pins σ H' s2∧Turn X.prog X.w X.K tg J fp it tn∧tn 0 s2.heap∧(∀b∈fp,mF X pins H' b)∧R J H'
noncomputable def PI(X:Cx)(tg iter:Expr)(wi:TI):Prop:=
 ∀(pins:List (Addr × Obj)) (s:Shared) (σ:St) (H:Hp) (R:It→Hp→Prop),Inv X pins σ H s→wi σ H R→
  wpAny (model X.prog X.w) X.A (eval iter X.env) (fun v s1=>wpAny (model X.prog X.w) X.A (pyIter v) (HP X pins σ tg R) X.xe s1) X.xe s
theorem vw{M:Model}{A:Around}{E:Value→Shared→Prop}{s:Shared}{tg:Expr}{it:Addr}{u:Value}{o:Obj}{n:String}{vs:Array Value}{Q:Unit→Shared→Prop}(ho:s.heap.get? it=some o)(hc:o.cls= .type n)(hd:o.data= .fields vs)
 (hn:["enumerate","zip","dict_itemiterator","dict_reverseitemiterator","odict_iterator","itertools.zip_longest","itertools.pairwise"].contains n=false) (hQ:Q () s):wpAny M A (letOwnedTupleGo tg (.ref it) u) Q E s:=by
 unfold letOwnedTupleGo
 cases tg <;> first
  | exact wpAny_pure hQ
  | (cases u <;> first
      | exact wpAny_pure hQ
      | (refine wpAny_bind (wpAny_load ho ?_)
         rw[hc,hd]
         show wpAny M A (if(["enumerate","zip","dict_itemiterator","dict_reverseitemiterator","odict_iterator","itertools.zip_longest","itertools.pairwise"].contains n && vs[0]? ==some (rawInt _))=true then _ else _) Q E s
         rw[if_neg (by intro h;rw [hn,Bool.false_and] at h;cases h)]
         exact wpAny_pure hQ))
noncomputable def Hx(K:PySem.W.Frag)(a:Addr):It:=
 ⟨fun i H=>∃xs x,k3 K H a xs∧xs[i]? =some x,fun i H x H'=>H'=H∧∀xs,k3 K H a xs→xs[i]? =some x,fun i H=>∃xs,k3 K H a xs∧xs.length≤i⟩
noncomputable def HI(K:PySem.W.Frag)(a:Addr):It:=
 ⟨fun i H=>∃xs x,mz K H a xs∧xs[i]? =some x,fun i H x H'=>H'=H∧∀xs,mz K H a xs→xs[i]? =some x,fun i H=>∃xs,mz K H a xs∧xs.length≤i⟩
noncomputable def FC(lo:Int)(n:Nat):It:=⟨fun i _=>i < n,fun i H x H'=>H'=H∧x= .int (lo+i),fun i _=>n≤i⟩
theorem pe{P:Program}{w:World}{K:PySem.W.Frag}{tg:Expr}(a it:Addr):Turn P w K tg (Hx K a) [it] it (fun i h=>h.IsListIter it a i) where
 mem:=by simp
 obj:=fun i h st b hb=>by
  have e:b=it:=by simpa using hb
  subst e
  obtain⟨o,e,c,d⟩:=st
  exact⟨o,e,fun v z=>by rw[d] at z;cases z⟩
 keep:=fun i h h' st k=>st.at fun o e=>k it (by simp) o e
 item:=by
  intro X hP hw hK hc i pins s σ H E I hf st hg
  subst hP hw hK
  obtain⟨xs,x,hq,hx⟩:=hg
  obtain⟨its,rv,p,hz⟩:=I.list hq
  obtain⟨u,hu,ru⟩:=rv.get hx
  obtain⟨f0,f1,f2,f3,f4,f5⟩:=hf it (by simp)
  refine wpAny_pyNext_list_item st p.isList (x:=u) (by simpa using hu) fun h' st' sb=>?_
  have I1:Inv X pins σ H {s with heap:=h'}:=I.turned (t':=s.toks) (fun b o hb e=>(sb.2 b hb).trans e) f0 f1 f3 f4 f5
  obtain⟨o,e,c,d⟩:=id st'
  exact⟨u,rfl,vw (s:={s with heap:=h'}) e c d (by decide) ⟨x,H,I1,ru,⟨rfl,fun ys hy=>by rw[I.om hy hq];exact hx⟩,st',fun b hb=>(hf b hb).1⟩⟩
 done:=by
  intro X hP hw hK hc i pins s σ H E I hf st hg
  subst hP hw hK
  obtain⟨xs,hq,hx⟩:=hg
  obtain⟨its,rv,p,hz⟩:=I.list hq
  obtain⟨f0,f1,f2,f3,f4,f5⟩:=hf it (by simp)
  have hl:=rv.length
  exact wpAny_pyNext_list_end (I.ok.hd hc) st p.isList (by simp;omega) fun h' eb=>⟨rfl,I.turned (t':=s.toks) (fun b o hb e=>eb b o hb e) f0 f1 f3 f4 f5⟩
 self:=fun _ _ _ _ _ st h=>wpAny_pyIter_listiter st h
theorem sZ{P:Program}{w:World}{K:PySem.W.Frag}{tg:Expr}(a it:Addr):Turn P w K tg (HI K a) [it] it (fun i h=>h.IsTupleIter it a i) where
 mem:=by simp
 obj:=fun i h st b hb=>by
  have e:b=it:=by simpa using hb
  subst e
  obtain⟨o,e,c,d⟩:=st
  exact⟨o,e,fun v z=>by rw[d] at z;cases z⟩
 keep:=fun i h h' st k=>st.at fun o e=>k it (by simp) o e
 item:=by
  intro X hP hw hK hc i pins s σ H E I hf st hg
  subst hP hw hK
  obtain⟨xs,x,hq,hx⟩:=hg
  obtain⟨its,rv,p,hz⟩:=I.tuple hq
  obtain⟨u,hu,ru⟩:=rv.get hx
  obtain⟨f0,f1,f2,f3,f4,f5⟩:=hf it (by simp)
  refine wpAny_pyNext_tuple_item st (show s.heap.IsTuple a its.toArray from p) (x:=u) (by simpa using hu) fun h' st' sb=>?_
  have I1:Inv X pins σ H {s with heap:=h'}:=I.turned (t':=s.toks) (fun b o hb e=>(sb.2 b hb).trans e) f0 f1 f3 f4 f5
  obtain⟨o,e,c,d⟩:=id st'
  exact⟨u,rfl,vw (s:={s with heap:=h'}) e c d (by decide) ⟨x,H,I1,ru,⟨rfl,fun ys hy=>by rw[I.pO hy hq];exact hx⟩,st',fun b hb=>(hf b hb).1⟩⟩
 done:=by
  intro X hP hw hK hc i pins s σ H E I hf st hg
  subst hP hw hK
  obtain⟨xs,hq,hx⟩:=hg
  obtain⟨its,rv,p,hz⟩:=I.tuple hq
  obtain⟨f0,f1,f2,f3,f4,f5⟩:=hf it (by simp)
  have hl:=rv.length
  exact wpAny_pyNext_tuple_end (I.ok.hd hc) st (show s.heap.IsTuple a its.toArray from p) (by simp;omega) fun h' eb=>⟨rfl,I.turned (t':=s.toks) (fun b o hb e=>eb b o hb e) f0 f1 f3 f4 f5⟩
 self:=fun _ _ _ _ _ st h=>wpAny_pyIter_tupleiter st h
theorem ud{P:Program}{w:World}{K:PySem.W.Frag}{tg:Expr}(it:Addr)(lo:Int)(n:Nat):Turn P w K tg (FC lo n) [it] it (fun i h=>IsRangeIter h it (lo+(i:Nat)*1) ((n:Int) - (i:Nat)) 1) where
 mem:=by simp
 obj:=fun i h st b hb=>by
  have e:b=it:=by simpa using hb
  subst e
  exact⟨_,st,fun v z=>by
   have z':Data.fields _=Data.cell v:=z
   cases z'⟩
 keep:=fun i h h' st k=>k it (by simp) _ st
 item:=by
  intro X hP hw hK hc i pins s σ H E I hf st hg
  subst hP hw hK
  obtain⟨f0,f1,f2,f3,f4,f5⟩:=hf it (by simp)
  have W:=Walks.range (prog:=X.prog) (w:=X.w) (I.ok.hd hc) it lo 1 n
  refine W.item i s _ _ hg st fun v h' tk hv st' kk=>?_
  obtain⟨t,rfl⟩:=hv
  have I1:Inv X pins σ H {s with heap:=h',toks:=tk}:=I.turned (fun b o hb e=>kk b o (by simpa using hb) e) f0 f1 f3 f4 f5
  refine⟨_,rfl,vw (s:={s with heap:=h',toks:=tk}) (n:="range_iterator") st' rfl rfl (by decide) ⟨.int (lo+i),H,I1,⟨t,?_⟩,⟨rfl,rfl⟩,st',fun b hb=>(hf b hb).1⟩⟩
  rw[Int.mul_one]
 done:=by
  intro X hP hw hK hc i pins s σ H E I hf st hg
  subst hP hw hK
  obtain⟨f0,f1,f2,f3,f4,f5⟩:=hf it (by simp)
  exact wpAny_pyNext_range_end (I.ok.hd hc) st (by have:n≤i:=hg;omega) fun h' eb=>⟨rfl,I.turned (t':=s.toks) (fun b o hb e=>eb b o hb e) f0 f1 f3 f4 f5⟩
 self:=fun _ _ _ _ _ st h=>wpAny_pyIter_rangeiter st h
end L2
namespace L2
open PySem PySem.Spec PyProof.Rows
section
variable {X:Cx} {tg:Expr}
noncomputable def Hu(K:PySem.W.Frag)(tl:TE):TI:=fun σ H R=>tl σ H fun x H1=>∃a,x= .ref a∧(∃xs,k3 K H1 a xs)∧R (Hx K a) H1
noncomputable def Ha(K:PySem.W.Frag)(tl:TE):TI:=fun σ H R=>tl σ H fun x H1=>∃a,x= .ref a∧(∃xs,mz K H1 a xs)∧R (HI K a) H1
theorem yi{pins:List (Addr × Obj)}{σ:St}{H:Hp}{s:Shared}{R:It→Hp→Prop}{E:Value→Shared→Prop}{lo hi:Int}{t u v:Tok}{tk:Nat}(I:Inv X pins σ H s)(h1: -(2 ^ 62)≤lo)(h2:lo < 2 ^ 62)(h3: -(2 ^ 62)≤hi)(h4:hi < 2 ^ 62)
 (q:R (FC lo (hi - lo).toNat) H):wpAny (model X.prog X.w) X.A (pyIter (.ref s.heap.objs.size)) (HP X pins σ tg R) E {s with heap:=s.heap.push {cls:= .type "range",data:= .fields #[.int lo t, .int hi u, .int 1 v]},toks:=tk}:=by
 refine wpAny_pyIter_range (IsRange.new ..) (small_one h1 h2 h3 h4) ?_
 have I1:Inv X pins σ H {s with heap:=s.heap.push {cls:= .type "range",data:= .fields #[.int lo t, .int hi u, .int 1 v]},toks:=tk}:=I.kept fun b o e=>Heap.get?_push_of_some _ e
 refine⟨(s.heap.push {cls:= .type "range",data:= .fields #[.int lo t, .int hi u, .int 1 v]}).objs.size,[(s.heap.push {cls:= .type "range",data:= .fields #[.int lo t, .int hi u, .int 1 v]}).objs.size],_,_,H,rfl,
  I1.kept (t':=tk) fun b o e=>Heap.get?_push_of_some _ e,ud _ lo (hi - lo).toNat,?_,fun b hb=>?_,q⟩
 ·have e1:lo+((0:Nat):Int)*1=lo:=by simp
  have e2:(((hi - lo).toNat:Nat):Int) - ((0:Nat):Int)=Builtin.Range.rangeSize lo hi 1:=by rw[rangeSize_one];split <;> omega
  show IsRangeIter _ _ (lo+((0:Nat):Int)*1) ((((hi - lo).toNat:Nat):Int) - ((0:Nat):Int)) 1
  rw[e1,e2]
  exact Heap.get?_push_size _ rfl
 ·have e:b=(s.heap.push {cls:= .type "range",data:= .fields #[.int lo t, .int hi u, .int 1 v]}).objs.size:=by simpa using hb
  subst e
  exact I1.oV (Nat.le_refl _) (I1.hok.fresh (Nat.le_refl _))
noncomputable def kh(ta:TA):TI:=fun σ H R=>ta σ H fun vs H1=>∃j:Int,vs=[.int j]∧ -(2 ^ 62)≤j∧j < 2 ^ 62∧R (FC 0 j.toNat) H1
noncomputable def Hr(ta:TA):TI:=fun σ H R=>ta σ H fun vs H1=>∃i j:Int,vs=[.int i, .int j]∧(-(2 ^ 62)≤i∧i < 2 ^ 62∧ -(2 ^ 62)≤j∧j < 2 ^ 62)∧R (FC i (j - i).toNat) H1
theorem pA{a:Expr}{ta:TA}{p pos:Pos}(hg:Gl X "range")(hm:X.mg "range"=none)(ha:PA X [a] ta)(hs:starEach [a] X.env=[(false,eval a X.env)]:=by rfl):PI X tg (.Call (.Name "range" p) [a] [] pos) (kh ta):=by
 intro pins s σ H R I h
 refine Call_ (jy I hg hm boot_range (PyProof.Rows.callWith_type1 (dg (ha pos pins s σ H _ I h) fun us s1 ⟨vs,H1,I1,r1,q1⟩=>?_) hs rfl))
 obtain⟨j,e,q1,q2,q⟩:=q1
 subst e
 cases r1 with
 | cons r rr=>
   cases rr
   obtain⟨t,rfl⟩:=r
   exact call_range_1 (yi I1 (by omega) (by omega) q1 q2 (by simpa using q))
noncomputable def GZ(wi:TI)(g:TG)(tb:TS):TS:=fun D σ H=>wi σ H fun J H1=>∃W:Nat→Nat→St→Hp→Prop,(∃m,W 0 m σ H1)∧∀i m σ H,W i m σ H→
 (J.stop i H∧D.nx σ H)∨(J.go i H∧∃N:St→Hp→Prop,(∀σ' H',N σ' H'→∃m',m' < m∧W (i+1) m' σ' H')∧∀x H',J.yld i H x H'→g x σ H' fun σ2 H2=>tb {D with nx:=N,ct:=N,bk:=D.nx} σ2 H2)
noncomputable def kG(fp:List Addr)(h:Heap):List (Addr × Obj):=fp.filterMap fun b=>(h.get? b).map fun o=>(b,o)
theorem iQ{fp:List Addr}{h:Heap}{b:Addr}{o:Obj}(hb:b∈fp)(e:h.get? b=some o):(b,o)∈kG fp h:=List.mem_filterMap.mpr ⟨b,hb,by rw[e];rfl⟩
theorem wU{fp:List Addr}{h:Heap}{p:Addr × Obj}(hp:p∈kG fp h):p.1∈fp∧h.get? p.1=some p.2:=by
 obtain⟨b,hb,e⟩:=List.mem_filterMap.mp hp
 cases q:h.get? b with
 | none=>rw [q] at e;cases e
 | some o=>
   rw[q] at e
   have e':(b,o)=p:=Option.some.inj e
   subst e'
   exact⟨hb,q⟩
theorem Inv.pinned{pins:List (Addr × Obj)}{σ:St}{H:Hp}{s:Shared}{fp:List Addr}(I:Inv X pins σ H s)(hf:∀b∈fp,mF X pins H b)(ho:∀b∈fp,∃o,s.heap.get? b=some o∧∀v,o.data≠ .cell v):Inv X (pins++kG fp s.heap) σ H s:=
 I.vD fun p hp=>(List.mem_append.mp hp).elim (fun z=>I.pin p (List.mem_append_right _ z)) fun z=>by
  obtain⟨hb,e⟩:=wU z
  obtain⟨f0,f1,f2,_⟩:=hf p.1 hb
  obtain⟨o,e',d⟩:=ho p.1 hb
  rw[e] at e';cases e'
  exact⟨e,f0,f1,f2,d⟩
theorem Inv.lr{pins pl:List (Addr × Obj)}{σ:St}{H:Hp}{s:Shared}(I:Inv X (pins++pl) σ H s):Inv X pins σ H s:=I.vD fun p hp=>I.pin p (List.mem_append_right _ (List.mem_append_left _ hp))
theorem xr{iter:Expr}{body:List Stmt}{wi:TI}{g:TG}{tb:TS}{pos:Pos}(hp:PassesOwn (model X.prog X.w) X.A X.env X.xe)(hc:X.calm=true)(hi:PI X tg iter wi)(hg:PG X tg g)(hb:qS X body tb)
 (hs:∀x,foldedSetIterable iter X.env x=pure x:=by intro _;rfl):PS X (.For tg iter body [] pos) (GZ wi g tb):=by
 intro pins s σ H D I h
 refine wpAny_For (dg (hi pins s σ H _ I h) fun v s1 h1=>dg h1 fun itv s2 h2=>?_) hs
 obtain⟨it,fp,tn,J,H2,e,I2,T,st2,f2,W,⟨m0,w0⟩,turn⟩:=h2
 subst e
 have stat:∀{H':Hp},(∀b∈fp,H' b=none)→∀b∈fp,mF X pins H' b:=fun hn b hb=>⟨hn b hb,(f2 b hb).2⟩
 refine codeAny_forLoop_any (fun n s'=>∃i σ' H',Inv X pins σ' H' s'∧tn i s'.heap∧(∀b∈fp,H' b=none)∧W i n σ' H') ?_ m0 ⟨0,σ,H2,I2,st2,fun b hb=>(f2 b hb).1,w0⟩
 rintro n s3 ⟨i,σ3,H3,I3,st3,fr3,w3⟩
 rcases turn i n σ3 H3 w3 with⟨stop,qn⟩ | ⟨go,N,hN,step⟩
 ·refine wpAny_passesOwn hp (dg (T.done X rfl rfl rfl hc i pins s3 σ3 H3 X.xe I3 (stat fr3) st3 stop) fun r s4 ⟨hr,I4⟩=>?_)
  subst hr
  exact wpAny_execs_nil ⟨σ3,H3,I4,qn⟩
 ·refine wpAny_passesOwn hp (dg (T.item X rfl rfl rfl hc i pins s3 σ3 H3 X.xe I3 (stat fr3) st3 go) fun r s4 ⟨u,hr,h4⟩=>?_)
  subst hr
  refine wpAny_passesOwn hp (dg h4 fun _ s5 ⟨x,H5,I5,r5,y5,st5,fr5⟩=>?_)
  have I5':=I5.pinned (stat fr5) (T.obj _ _ st5)
  refine wpAny_passesOwn hp (dg (hg _ s5 σ3 H5 x u _ I5' r5 (step x H5 y5)) fun _ s6 ⟨σ6,H6,I6,q6⟩=>?_)
  refine wpAny_passesOwn hp (dg (hb _ s6 σ6 H6 _ I6 q6) fun f s7 q7=>?_)
  have again:∀{σ7:St} {H7:Hp},Inv X (pins++kG fp s5.heap) σ7 H7 s7→N σ7 H7→∃m,m < n∧∃i σ' H',Inv X pins σ' H' s7∧tn i s7.heap∧(∀b∈fp,H' b=none)∧W i m σ' H':=fun {σ7 H7} I7 n7=>by
   obtain⟨m',hm,w7⟩:=hN σ7 H7 n7
   refine⟨m',hm,i+1,σ7,H7,I7.lr,T.keep _ _ _ st5 fun b hb o e=>(I7.pin (b,o) (List.mem_append_right _ (List.mem_append_right _ (iQ hb e)))).1,fun b hb=>?_,w7⟩
   obtain⟨o,e,d⟩:=T.obj _ _ st5 b hb
   exact(I7.pin (b,o) (List.mem_append_right _ (List.mem_append_right _ (iQ hb e)))).2.1
  cases f with
  | next=>obtain⟨σ7,H7,I7,n7⟩:=q7;exact again I7 n7
  | cont=>obtain⟨σ7,H7,I7,n7⟩:=q7;exact again I7 n7
  | brk=>obtain⟨σ7,H7,I7,q7⟩:=q7;exact⟨σ7,H7,I7.lr,q7⟩
  | ret v=>obtain⟨x7,σ7,H7,I7,r7,q7⟩:=q7;exact⟨x7,σ7,H7,I7.lr,r7,q7⟩
end
end L2
namespace L2
open PySem PySem.Spec PyProof.Rows
noncomputable abbrev R2:=V→V→Hp→VK→Prop
noncomputable def jD(X:Cx)(f:Value→Value→Sem Value)(r:R2):Prop:=
 ∀(pins:List (Addr × Obj)) (s:Shared) (σ:St) (H:Hp) (x y:V) (v u:Value) (Q:VK),Inv X pins σ H s→RelV x v→RelV y u→r x y H Q→
  wpAny (model X.prog X.w) X.A (f v u) (EP X pins σ Q) X.xe s
noncomputable def Gd(X:Cx)(f:Value→Sem Value)(r:V→Hp→VK→Prop):Prop:=
 ∀(pins:List (Addr × Obj)) (s:Shared) (σ:St) (H:Hp) (x:V) (v:Value) (Q:VK),Inv X pins σ H s→RelV x v→r x H Q→
  wpAny (model X.prog X.w) X.A (f v) (EP X pins σ Q) X.xe s
noncomputable def jq(X:Cx)(f:Value)(r:List V→Hp→VK→Prop):Prop:=
 ∀(pins:List (Addr × Obj)) (s:Shared) (σ:St) (H:Hp) (xs:List V) (us:List Value) (Q:VK),Inv X pins σ H s→Vals xs us→r xs H Q→
  wpAny (model X.prog X.w) X.A (call f us) (EP X pins σ Q) X.xe s
noncomputable def GL(X:Cx)(r:V→Hp→(Bool→Hp→Prop)→Prop):Prop:=
 ∀(pins:List (Addr × Obj)) (s:Shared) (σ:St) (H:Hp) (x:V) (v:Value) (Q:Bool→Hp→Prop),Inv X pins σ H s→RelV x v→r x H Q→
  wpAny (model X.prog X.w) X.A (truthy v) (TP X pins σ Q) X.xe s
noncomputable def Eb(r:R2)(ta tb:TE):TE:=fun σ H Q=>ta σ H fun x H1=>tb σ H1 fun y H2=>r x y H2 Q
noncomputable def Jc(r:V→Hp→VK→Prop)(ta:TE):TE:=fun σ H Q=>ta σ H fun x H1=>r x H1 Q
noncomputable def rI(C:Int→Int→Prop)(g:Int→Int→V):R2:=fun x y H Q=>∃i j,x= .int i∧y= .int j∧C i j∧Q (g i j) H
noncomputable def xg(g:Int→Int→V):R2:=fun x y H Q=>∃i j,x= .int i∧y= .int j∧Q (g i j) H
noncomputable def rU(g:Int→V):V→Hp→VK→Prop:=fun x H Q=>∃i,x= .int i∧Q (g i) H
section
variable {X:Cx} {a b c:Expr} {ta tb tc:TE} {pos:Pos}
theorem C_(ha:PE X a ta)(hb:PE X b tb){pins:List (Addr × Obj)}{s:Shared}{σ:St}{H:Hp}{R:V→V→Hp→Prop}(I:Inv X pins σ H s)
 (h:ta σ H fun x H1=>tb σ H1 fun y H2=>R x y H2) {Q:Value→Shared→Prop} {f:Value→Value→Sem Value}
 (hf:∀v u s2 x y H2,Inv X pins σ H2 s2→RelV x v→RelV y u→R x y H2→wpAny (model X.prog X.w) X.A (f v u) Q X.xe s2) :
 wpAny (model X.prog X.w) X.A (eval a X.env) (fun v s₁=>wpAny (model X.prog X.w) X.A (eval b X.env) (fun u s₂=>wpAny (model X.prog X.w) X.A (f v u) Q X.xe s₂) X.xe s₁) X.xe s:=by
 refine dg (ha pins s σ H _ I h) fun v s1 ⟨x,H1,I1,r1,q1⟩=>?_
 refine dg (hb pins s1 σ H1 _ I1 q1) fun u s2 ⟨y,H2,I2,r2,q2⟩=>?_
 exact hf v u s2 x y H2 I2 r1 r2 q2
theorem vq{op:Operator}{r:R2}(ho:jD X (binaryOp op) r)(ha:PE X a ta)(hb:PE X b tb):PE X (.BinOp a op b pos) (Eb r ta tb):=by
 intro pins s σ H Q I h
 exact wpAny_BinOp (C_ ha hb I h fun v u s2 x y H2 I2 rx ry q=>ho pins s2 σ H2 x y v u Q I2 rx ry q)
theorem FI{op:UnaryOp}{r:V→Hp→VK→Prop}(ho:Gd X (unaryOp op) r)(ha:PE X a ta):PE X (.UnaryOp op a pos) (Jc r ta):=by
 intro pins s σ H Q I h
 exact UnaryOp_ (dg (ha pins s σ H _ I h) fun v s1 ⟨x,H1,I1,r1,q1⟩=>ho pins s1 σ H1 x v Q I1 r1 q1)
theorem D7{f:Value→Value→Sem Value}{C:Int→Int→Prop}{g:Int→Int→Int}
 (rule:∀(i j:Int) (t u:Tok) (s:Shared) (Q:Value→Shared→Prop) (E:Value→Shared→Prop),C i j→Q (.int (g i j) s.toks) {s with toks:=s.toks+1}→wpAny (model X.prog X.w) X.A (f (.int i t) (.int j u)) Q E s) :
 jD X f (rI C fun i j=> .int (g i j)):=by
 intro pins s σ H x y v u Q I rx ry h
 obtain⟨i,j,rfl,rfl,hc,q⟩:=h
 obtain⟨t,rfl⟩:=rx
 obtain⟨t',rfl⟩:=ry
 exact rule i j t t' s _ _ hc ⟨.int (g i j),H,I.tok _,⟨_,rfl⟩,q⟩
theorem zw{f:Value→Value→Sem Value}{g:Int→Int→Int}
 (rule:∀(i j:Int) (t u:Tok) (s:Shared) (Q:Value→Shared→Prop) (E:Value→Shared→Prop),Q (.int (g i j) s.toks) {s with toks:=s.toks+1}→wpAny (model X.prog X.w) X.A (f (.int i t) (.int j u)) Q E s) :
 jD X f (xg fun i j=> .int (g i j)):=by
 intro pins s σ H x y v u Q I rx ry h
 obtain⟨i,j,rfl,rfl,q⟩:=h
 obtain⟨t,rfl⟩:=rx
 obtain⟨t',rfl⟩:=ry
 exact rule i j t t' s _ _ ⟨.int (g i j),H,I.tok _,⟨_,rfl⟩,q⟩
theorem Dv{f:Value→Value→Sem Value}{g:Int→Int→Bool}
 (rule:∀(i j:Int) (t u:Tok) (s:Shared) (Q:Value→Shared→Prop) (E:Value→Shared→Prop),Q (.bool (g i j)) s→wpAny (model X.prog X.w) X.A (f (.int i t) (.int j u)) Q E s) :
 jD X f (xg fun i j=> .bl (g i j)):=by
 intro pins s σ H x y v u Q I rx ry h
 obtain⟨i,j,rfl,rfl,q⟩:=h
 obtain⟨t,rfl⟩:=rx
 obtain⟨t',rfl⟩:=ry
 exact rule i j t t' s _ _ ⟨.bl (g i j),H,I,rfl,q⟩
noncomputable def HZ(i j:Int):Prop:=0 < j∧j < 1073741824
noncomputable def Hf(i j:Int):Prop:=j≠0∧j.natAbs < 1073741824
noncomputable def E9(i j:Int):Prop:=0≤j∧j≤1000000∧i.natAbs < 2 ^ 64
noncomputable def C9(i j:Int):Prop:=(-(2 ^ 64) < i∧i < 2 ^ 64)∨(-(2 ^ 64) < j∧j < 2 ^ 64)
theorem C9.ok{i j:Int}(h:C9 i j):IntMulOk i j:=by
 rcases h with⟨h1,h2⟩ | ⟨h1,h2⟩
 ·exact .of_left (intBits_le_64 h1 h2)
 ·exact .of_right (intBits_le_64 h1 h2)
theorem tR(k:Nat):(0:Int)≤2 ^ k:=by
 rw[two_pow_cast]
 exact Int.natCast_nonneg _
theorem CM:jD X (binaryOp .Add) (xg fun i j=> .int (i+j)):=zw fun _ _ _ _ _ _ _ q=>add_int q
theorem Cj:jD X (binaryOp .Sub) (xg fun i j=> .int (i - j)):=zw fun _ _ _ _ _ _ _ q=>sub_int q
theorem Cd:jD X (binaryOp .Mult) (rI C9 fun i j=> .int (i*j)):=D7 fun _ _ _ _ _ _ _ hc q=>mul_int q hc.ok
theorem DW:jD X (binaryOp .Mod) (rI (fun _ j=>0 < j) fun i j=> .int (i % j)):=D7 fun i j _ _ _ _ _ hc q=>by
 have h1:(0:Int) < j:=hc
 exact mod_int' (by omega) (by rw[Int.fmod_eq_emod_of_nonneg i (by omega)];exact q)
theorem DP:jD X (binaryOp .Pow) (rI E9 fun i j=> .int (i ^ j.toNat)):=D7 fun _ _ _ _ _ _ _ hc q=>pow_int_small hc.1 hc.2.1 hc.2.2 q
theorem Cb:jD X (binaryOp .LShift) (rI E9 fun i j=> .int (i*2 ^ j.toNat)):=D7 fun _ _ _ _ _ _ _ hc q=>lshift_int_small hc.1 hc.2.1 hc.2.2 q
theorem DY:jD X (binaryOp .RShift) (rI (fun _ j=>0≤j) fun i j=> .int (i / 2 ^ j.toNat)):=D7 fun i j _ _ _ _ _ hc q=>
 rshift_int hc (by rw[Int.fdiv_eq_ediv_of_nonneg i (tR _)];exact q)
theorem Ct:jD X (binaryOp .BitAnd) (xg fun i j=> .int (Builtin.bitAnd i j)):=zw fun _ _ _ _ _ _ _ q=>and_int q
theorem Fs:jD X (binaryOp .BitOr) (xg fun i j=> .int (Builtin.bitOr i j)):=zw fun _ _ _ _ _ _ _ q=>or_int q
theorem Cs:jD X (binaryOp .BitXor) (xg fun i j=> .int (Builtin.bitXor i j)):=zw fun _ _ _ _ _ _ _ q=>xor_int q
theorem Ij{f:Value→Sem Value}{g:Int→Int}
 (rule:∀(i:Int) (t:Tok) (s:Shared) (Q:Value→Shared→Prop) (E:Value→Shared→Prop),Q (.int (g i) s.toks) {s with toks:=s.toks+1}→wpAny (model X.prog X.w) X.A (f (.int i t)) Q E s) :
 Gd X f (rU fun i=> .int (g i)):=by
 intro pins s σ H x v Q I rx h
 obtain⟨i,rfl,q⟩:=h
 obtain⟨t,rfl⟩:=rx
 exact rule i t s _ _ ⟨.int (g i),H,I.tok _,⟨_,rfl⟩,q⟩
theorem Dq:Gd X (unaryOp .USub) (rU fun i=> .int (-i)):=Ij fun _ _ _ _ _ q=>neg_int q
end
noncomputable def Fg:V→V→Bool
 | .cD, .cD=>true | .cD, .int _=>true | .int _, .cD=>true | .cD, .bl _=>true | .bl _, .cD=>true | .cD, .str _=>true | .str _, .cD=>true
 | .int _, .int _=>true | .bl _, .bl _=>true | .str _, .str _=>true | .byt _, .byt _=>true
 | .int _, .str _=>true | .str _, .int _=>true | .bl _, .str _=>true | .str _, .bl _=>true
 | _,_=>false
noncomputable def Ik:R2:=fun x y H Q=>Fg x y=true∧Q (.bl (decide (x=y))) H
noncomputable def IL:R2:=fun x y H Q=>Fg x y=true∧Q (.bl (!decide (x=y))) H
theorem uJ{i j:Int}:decide (V.int i=V.int j)=(i==j):=by
 rw[Bool.eq_iff_iff]
 simp
theorem yI{i j:Bool}:decide (V.bl i=V.bl j)=(i==j):=by
 rw[Bool.eq_iff_iff]
 simp
theorem vB{i j:Str}:decide (V.str i=V.str j)=(i==j):=by
 rw[Bool.eq_iff_iff]
 simp
theorem vN{i j:Array UInt8}:decide (V.byt i=V.byt j)=(i.toList==j.toList):=by
 rw[Bool.eq_iff_iff]
 cases i
 cases j
 simp
section
variable {X:Cx} {a b c:Expr} {ta tb tc:TE} {pos:Pos}
theorem bL{pins:List (Addr × Obj)}{σ:St}{H:Hp}{s:Shared}{Q:VK}{k k':Bool}(I:Inv X pins σ H s)(q:Q (.bl k) H)(e:k=k'):EP X pins σ Q (.bool k') s:=by
 subst e
 exact⟨.bl k,H,I,rfl,q⟩
theorem ze:jD X (compareOp .Eq) Ik:=by
 intro pins s σ H x y v u Q I rx ry h
 obtain⟨hs,q⟩:=h
 cases x with
 | cD=>
   cases rx
   cases y with
   | cD=>cases ry;exact PySem.EqNone.eq_none_none (bL I q (by simp))
   | bl j=>cases ry;exact PySem.EqNone.eq_none_bool (bL I q (by simp))
   | int j=>obtain⟨t',rfl⟩:=ry;exact PySem.EqNone.eq_none_int (bL I q (by simp))
   | str j=>obtain⟨t',rfl⟩:=ry;exact PySem.EqNone.eq_none_str (bL I q (by simp))
   | _=>exact absurd (show false=true from hs) Bool.false_ne_true
 | bl i=>
   cases rx
   cases y with
   | cD=>cases ry;exact PySem.EqNone.eq_bool_none (bL I q (by simp))
   | bl j=>cases ry;exact eq_bool (bL I q yI)
   | str j=>obtain⟨t',rfl⟩:=ry;exact PySem.EqMixed.eq_bool_str (bL I q (by simp))
   | _=>exact absurd (show false=true from hs) Bool.false_ne_true
 | int i=>
   obtain⟨t,rfl⟩:=rx
   cases y with
   | cD=>cases ry;exact PySem.EqNone.eq_int_none (bL I q (by simp))
   | int j=>obtain⟨t',rfl⟩:=ry;exact eq_int (bL I q uJ)
   | str j=>obtain⟨t',rfl⟩:=ry;exact PySem.EqMixed.eq_int_str (bL I q (by simp))
   | _=>exact absurd (show false=true from hs) Bool.false_ne_true
 | str i=>
   obtain⟨t,rfl⟩:=rx
   cases y with
   | cD=>cases ry;exact PySem.EqNone.eq_str_none (bL I q (by simp))
   | bl j=>cases ry;exact PySem.EqMixed.eq_str_bool (bL I q (by simp))
   | int j=>obtain⟨t',rfl⟩:=ry;exact PySem.EqMixed.eq_str_int (bL I q (by simp))
   | str j=>obtain⟨t',rfl⟩:=ry;exact eq_str (bL I q vB)
   | _=>exact absurd (show false=true from hs) Bool.false_ne_true
 | byt i=>
   obtain⟨t,rfl⟩:=rx
   cases y with
   | byt j=>obtain⟨t',rfl⟩:=ry;exact PySem.W.eq_bytes (bL I q vN)
   | _=>exact absurd (show false=true from hs) Bool.false_ne_true
 | _=>cases y <;> exact absurd (show false=true from hs) Bool.false_ne_true
theorem yx:jD X (compareOp .NotEq) IL:=by
 intro pins s σ H x y v u Q I rx ry h
 obtain⟨hs,q⟩:=h
 cases x with
 | cD=>
   cases rx
   cases y with
   | cD=>cases ry;exact PySem.EqNone.ne_none_none (bL I q (by simp))
   | bl j=>cases ry;exact PySem.EqNone.ne_none_bool (bL I q (by simp))
   | int j=>obtain⟨t',rfl⟩:=ry;exact PySem.EqNone.ne_none_int (bL I q (by simp))
   | str j=>obtain⟨t',rfl⟩:=ry;exact PySem.EqNone.ne_none_str (bL I q (by simp))
   | _=>exact absurd (show false=true from hs) Bool.false_ne_true
 | bl i=>
   cases rx
   cases y with
   | cD=>cases ry;exact PySem.EqNone.ne_bool_none (bL I q (by simp))
   | bl j=>cases ry;exact ne_bool (bL I q (congrArg not yI))
   | str j=>obtain⟨t',rfl⟩:=ry;exact PySem.EqMixed.ne_bool_str (bL I q (by simp))
   | _=>exact absurd (show false=true from hs) Bool.false_ne_true
 | int i=>
   obtain⟨t,rfl⟩:=rx
   cases y with
   | cD=>cases ry;exact PySem.EqNone.ne_int_none (bL I q (by simp))
   | int j=>obtain⟨t',rfl⟩:=ry;exact ne_int (bL I q (congrArg not uJ))
   | str j=>obtain⟨t',rfl⟩:=ry;exact PySem.EqMixed.ne_int_str (bL I q (by simp))
   | _=>exact absurd (show false=true from hs) Bool.false_ne_true
 | str i=>
   obtain⟨t,rfl⟩:=rx
   cases y with
   | cD=>cases ry;exact PySem.EqNone.ne_str_none (bL I q (by simp))
   | bl j=>cases ry;exact PySem.EqMixed.ne_str_bool (bL I q (by simp))
   | int j=>obtain⟨t',rfl⟩:=ry;exact PySem.EqMixed.ne_str_int (bL I q (by simp))
   | str j=>obtain⟨t',rfl⟩:=ry;exact ne_str (bL I q (congrArg not vB))
   | _=>exact absurd (show false=true from hs) Bool.false_ne_true
 | byt i=>
   obtain⟨t,rfl⟩:=rx
   cases y with
   | byt j=>obtain⟨t',rfl⟩:=ry;exact PySem.W.ne_bytes (bL I q (congrArg not vN))
   | _=>exact absurd (show false=true from hs) Bool.false_ne_true
 | _=>cases y <;> exact absurd (show false=true from hs) Bool.false_ne_true
theorem EM:jD X (compareOp .Lt) (xg fun i j=> .bl (decide (i < j))):=Dv fun _ _ _ _ _ _ _ q=>lt_int q
theorem Fo:jD X (compareOp .Gt) (xg fun i j=> .bl (decide (j < i))):=Dv fun _ _ _ _ _ _ _ q=>gt_int q
theorem EV:jD X (compareOp .GtE) (xg fun i j=> .bl (decide (j≤i))):=Dv fun _ _ _ _ _ _ _ q=>ge_int q
theorem wI:jD X (compareOp .In) (fun x y H Q=>∃i j,x= .str i∧y= .str j∧Q (.bl (!(Builtin.Str.occurrences j i 0 j.length 1).isEmpty)) H):=by
 intro pins s σ H x y v u Q I rx ry h
 obtain⟨i,j,rfl,rfl,q⟩:=h
 obtain⟨t,rfl⟩:=rx
 obtain⟨t',rfl⟩:=ry
 exact in_str (bL I q rfl)
noncomputable def isObj:HO→Bool
 | .lst _=>true
 | .ins _ _ _=>true
 | _=>false
theorem bX(b:Expr){op:CmpOp}(h:op≠ .In:=by decide)(h2:op≠ .NotIn:=by decide):behindInMarks op b=false:=by
 have e1:(op==CmpOp.In)=false:=by cases op <;> first | rfl | exact absurd rfl h
 have e2:(op==CmpOp.NotIn)=false:=by cases op <;> first | rfl | exact absurd rfl h2
 cases b <;> simp [behindInMarks,e1,e2]
theorem uF{op:CmpOp}{r:R2}(ho:jD X (compareOp op) r)(ha:PE X a ta)(hb:PE X b tb)(hm:behindInMarks op b=false):PE X (.Compare a [op] [b] pos) (Eb r ta tb):=by
 intro pins s σ H Q I h
 exact wpAny_Compare1 (C_ ha hb I h fun v u s2 x y H2 I2 rx ry q=>ho pins s2 σ H2 x y v u Q I2 rx ry q) hm
noncomputable def Fi(t:TE):TT:=fun σ H Q=>t σ H fun x H'=>∃k,x= .bl k∧Q k H'
theorem uX{op:CmpOp}{r:R2}(ho:jD X (compareOp op) r)(ha:PE X a ta)(hb:PE X b tb)(hm:behindInMarks op b=false):PT X (.Compare a [op] [b] pos) (Fi (Eb r ta tb)):=by
 intro pins s σ H Q I h
 refine wpAny_isTrue_Compare1 (dg (ha pins s σ H _ I h) fun v s1 ⟨x,H1,I1,r1,q1⟩=>dg (hb pins s1 σ H1 _ I1 q1) fun u s2 ⟨y,H2,I2,r2,q2⟩=>
  dg (ho pins s2 σ H2 x y v u _ I2 r1 r2 q2) fun c s3 ⟨z,H3,I3,r3,k,e,q3⟩=>?_) hm
 subst e
 cases r3
 exact wpAny_truthy_bool ⟨H3,I3,q3⟩
noncomputable def Gf(r r':R2)(ta tb tc:TE):TE:=fun σ H Q=>ta σ H fun x H1=>tb σ H1 fun y H2=>r x y H2 fun z H3=>∃k,z= .bl k∧
 (if k=true then tc σ H3 fun w' H4=>r' y w' H4 Q else Q (.bl false) H3)
noncomputable def C6(K:PySem.W.Frag)(x:V)(H:Hp)(k:Bool):Prop:=
 match x with
 | .cD=>k=false
 | .bl b=>k=b
 | .int i=>k=(i !=0)
 | .str y=>y.length≤sizeLine∧k=((y.length:Int) !=0)
 | .byt y=>y.size≤sizeLine∧k=((y.size:Int) !=0)
 | .ref p=>(∃xs,k3 K H p xs∧k=!xs.isEmpty)∨(∃xs,mz K H p xs∧k=!xs.isEmpty)∨∃kvs,H p=some (.dK kvs)∧k=!kvs.isEmpty
 | _=>False
theorem tK{κ:Type}{kvs:List (κ × V)}{vs:List (κ × Value)}(r:KV kvs vs):(!vs.isEmpty)=!kvs.isEmpty:=by
 cases r <;> rfl
theorem m4{xs:List V}{its:List Value}(r:Vals xs its):(!its.toArray.isEmpty)=!xs.isEmpty:=by
 cases r <;> simp
theorem lO:(sizeLine:Nat) < 2 ^ 63:=by rw[sizeLine_eq];decide
theorem CD:GL X (fun x H Q=>∃k,C6 X.K x H k∧Q k H):=by
 intro pins s σ H x v Q I rx h
 obtain⟨k,e,q⟩:=h
 have hl:=lO
 have hs:sizeLine=16777216:=sizeLine_eq
 cases x with
 | cD=>
   cases rx
   have e':k=false:=e
   subst e'
   exact truthy_none ⟨H,I,q⟩
 | bl b=>
   cases rx
   have e':k=b:=e
   subst e'
   exact wpAny_truthy_bool ⟨H,I,q⟩
 | int i=>
   obtain⟨t,rfl⟩:=rx
   have e':k=(i !=0):=e
   subst e'
   exact PySem.P.truthy_int ⟨H,I,q⟩
 | str y=>
   obtain⟨t,rfl⟩:=rx
   obtain⟨hy,e'⟩:y.length≤sizeLine∧k=((y.length:Int) !=0):=e
   subst e'
   exact PySem.P.truthy_str (by omega) ⟨H,I.tok _,q⟩
 | byt y=>
   obtain⟨t,rfl⟩:=rx
   obtain⟨hy,e'⟩:y.size≤sizeLine∧k=((y.size:Int) !=0):=e
   subst e'
   exact PySem.W.truthy_bytes (by omega) ⟨H,I.tok _,q⟩
 | ref p=>
   cases rx
   have e':(∃xs,k3 X.K H p xs∧k=!xs.isEmpty)∨(∃xs,mz X.K H p xs∧k=!xs.isEmpty)∨∃kvs,H p=some (.dK kvs)∧k=!kvs.isEmpty:=e
   rcases e' with⟨xs,hx,e'⟩ | ⟨xs,hx,e'⟩ | ⟨kvs,hx,e'⟩
   ·subst e'
    obtain⟨its,r,pl,hz⟩:=I.list hx
    have hlen:=r.length
    exact wpAny_truthy_list pl.isList (by simp only[List.size_toArray];omega) ⟨H,I.tok _,by rw[m4 r];exact q⟩
   ·subst e'
    obtain⟨its,r,pl,hz⟩:=I.tuple hx
    have hlen:=r.length
    exact truthy_tuple pl (by simp only[List.size_toArray];omega) ⟨H,I.tok _,by rw[m4 r];exact q⟩
   ·subst e'
    obtain⟨hz,hS,vs,r,m⟩:kvs.length≤sizeLine∧(p==sysModules)=false∧∃vs,KV kvs vs∧s.heap.DictOf (cV X.prog X.w) p vs:=I.hok p _ hx
    have hlen:kvs.length=vs.length:=Paired.length r
    exact wpAny_truthy_dict hS m (by omega) ⟨H,I.tok _,by rw[tK r];exact q⟩
 | _=>exact(show False from e).elim
theorem xZ(ha:PE X a ta)(he:∀whole,isTrue a X.env whole=(do let v ←whole;standAt a.pos;holding [v] (truthy v))) :
 PT X a (fun σ H Q=>ta σ H fun x H'=>∃k,C6 X.K x H' k∧Q k H'):=by
 intro pins s σ H Q I h
 exact isTrue_plain (dg (ha pins s σ H _ I h) fun v s1 ⟨x,H1,I1,r1,q1⟩=>CD pins s1 σ H1 x v Q I1 r1 q1) (he _)
theorem tI:jD X (binaryOp .Add) (fun x y H Q=>∃i j,x= .str i∧y= .str j∧i.length+j.length≤sizeLine∧Q (.str (i++j)) H):=by
 intro pins s σ H x y v u Q I rx ry h
 obtain⟨i,j,rfl,rfl,hz,q⟩:=h
 obtain⟨t,rfl⟩:=rx
 obtain⟨t',rfl⟩:=ry
 exact add_str (fun t' tk=>⟨.str (i++j),H,I.tok _,⟨_,rfl⟩,q⟩) hz
noncomputable def Eo(b:Expr):Prop:=∀o i,subscripted b false o i=operate [o,i] (getItem o i)
theorem vals1{x:V}{us:List Value}(r:Vals [x] us):∃u,us=[u]∧RelV x u:=by
 cases r with
 | cons r1 r2=>cases r2;exact⟨_,rfl,r1⟩
theorem vals2{x y:V}{us:List Value}(r:Vals [x,y] us):∃u w',us=[u,w']∧RelV x u∧RelV y w':=by
 cases r with
 | cons r1 r2=>
   cases r2 with
   | cons r3 r4=>cases r4;exact⟨_,_,rfl,r1,r3⟩
theorem xU:jq X (.builtin "abs") (fun xs H Q=>∃i,xs=[.int i]∧Q (.int (if i < 0 then -i else i)) H):=by
 intro pins s σ H xs us Q I r h
 obtain⟨i,rfl,q⟩:=h
 obtain⟨u,rfl,t,rfl⟩:=vals1 r
 exact call_abs_int fun u tk=>⟨.int (if i < 0 then -i else i),H,I.tok _,⟨_,rfl⟩,q⟩
theorem wJ(hc:X.calm=true):jq X (.builtin "min") (fun xs H Q=>∃i j,xs=[.int i, .int j]∧Q (.int (if j < i then j else i)) H):=by
 intro pins s σ H xs us Q I r h
 obtain⟨i,j,rfl,q⟩:=h
 obtain⟨u,w',rfl,⟨t,rfl⟩,⟨t',rfl⟩⟩:=vals2 r
 refine min_two_ints (I.ok.hd hc) fun h' tk k=>⟨_,H,I.kept k,?_,q⟩
 by_cases hj:j < i
 ·rw[if_pos hj,if_pos hj];exact⟨_,rfl⟩
 ·rw[if_neg hj,if_neg hj];exact⟨_,rfl⟩
theorem wK:jq X (.type "int") (fun xs H Q=>(∃i,xs=[.int i]∧Q (.int i) H)∨∃k,xs=[.bl k]∧Q (.int (if k then 1 else 0)) H):=by
 intro pins s σ H xs us Q I r h
 rcases h with⟨i,rfl,q⟩ | ⟨k,rfl,q⟩
 ·obtain⟨u,rfl,t,rfl⟩:=vals1 r
  exact call_int_int ⟨.int i,H,I,⟨_,rfl⟩,q⟩
 ·obtain⟨u,rfl,r1⟩:=vals1 r
  cases r1
  exact call_int_bool ⟨.int (if k then 1 else 0),H,I.tok _,⟨_,rfl⟩,q⟩
noncomputable def Gn(K:PySem.W.Frag)(x:V)(H:Hp)(n:Nat):Prop:=
 match x with
 | .str y=>y.length≤sizeLine∧n=y.length
 | .byt y=>y.size≤sizeLine∧n=y.size
 | .ref p=>(∃xs,k3 K H p xs∧n=xs.length)∨∃xs,mz K H p xs∧n=xs.length
 | _=>False
theorem zf:jq X (.builtin "len") (fun xs H Q=>∃x n,xs=[x]∧Gn X.K x H n∧Q (.int n) H):=by
 intro pins s σ H xs us Q I r h
 obtain⟨x,n,rfl,e,q⟩:=h
 obtain⟨u,rfl,rx⟩:=vals1 r
 have hl:=lO
 have hs:sizeLine=16777216:=sizeLine_eq
 cases x with
 | str y=>
   obtain⟨t,rfl⟩:=rx
   obtain⟨hy,e'⟩:y.length≤sizeLine∧n=y.length:=e
   subst e'
   exact len_str (by omega) ⟨.int _,H,I.tok _,⟨_,rfl⟩,q⟩
 | byt y=>
   obtain⟨t,rfl⟩:=rx
   obtain⟨hy,e'⟩:y.size≤sizeLine∧n=y.size:=e
   subst e'
   exact PySem.W.len_bytes (by omega) ⟨.int _,H,I.tok _,⟨_,rfl⟩,q⟩
 | ref p=>
   cases rx
   have e':(∃xs,k3 X.K H p xs∧n=xs.length)∨∃xs,mz X.K H p xs∧n=xs.length:=e
   rcases e' with⟨xs,hx,e'⟩ | ⟨xs,hx,e'⟩
   ·subst e'
    obtain⟨its,r',pl,hz⟩:=I.list hx
    have hlen:=r'.length
    exact Calls.call_len_list pl.isList (by simp only[List.size_toArray];omega) ⟨.int xs.length,H,I.tok _,⟨_,by simp only[List.size_toArray];rw [hlen]⟩,q⟩
   ·subst e'
    obtain⟨its,r',pl,hz⟩:=I.tuple hx
    have hlen:=r'.length
    exact len_tuple pl (by simp only[List.size_toArray];omega) ⟨.int xs.length,H,I.tok _,⟨_,by simp only[List.size_toArray];rw [hlen]⟩,q⟩
 | _=>exact(show False from e).elim
end
end L2
namespace L2
open PySem PySem.Spec PyProof.Rows
structure sW (h:Heap) (x dx C:Addr) (mA:Str→Option Value):Prop where
 obj:h.get? x=some (PySem.W.instObj C dx)
 ns:h.Ns1 dx mA
 ne:dx≠x
theorem wZ{h:Heap}{dx:Addr}{mA:Str→Option Value}(n:h.Ns1 dx mA):∃od,h.get? dx=some od∧∀name,PySem.W.lookIn name od=some (mA name):=by
 obtain⟨o,es,ep,ho,hd,hk,_,hm⟩:=n
 refine⟨o,ho,fun name=>?_⟩
 have e:=hm name
 unfold nsFind findBy at e
 rw[←Array.find?_toList] at e
 unfold PySem.W.lookIn
 rw[hd]
 dsimp only
 split
 ·rename_i y q
  rw[q] at e
  exact congrArg some e
 ·rename_i q
  rw[q] at e
  have a:es.toList.any (·.refKey)=false:=by
   rw[List.any_eq_false]
   intro y hy
   obtain⟨z,t,hkey⟩:=hk y (Array.mem_toList_iff.mp hy)
   simp [DictEntry.refKey,hkey]
  have a':¬es.toList.any (·.refKey)=true:=by rw[a];exact Bool.false_ne_true
  rw[if_neg a']
  exact congrArg some e
theorem sW.look{h:Heap}{x dx C:Addr}{mA:Str→Option Value}(I:sW h x dx C mA):∃od,PySem.W.InstAt h x (PySem.W.instObj C dx) C (some od)∧∀name,PySem.W.lookIn name od=some (mA name):=
 let⟨od,ho,hl⟩:=wZ I.ns
 ⟨od,⟨I.obj,rfl,rfl,ho⟩,hl⟩
section
variable {prog:Program} {w:World} {A:Around} {E:Value→Shared→Prop} {s:Shared} {K:PySem.W.Frag} {x dx C f:Addr} {mA:Str→Option Value} {name:Str} {v:Value}
theorem get_map{expr:Bool}{Q:Value→Shared→Prop}(X:K.In s.heap)(I:sW s.heap x dx C mA)(hg:PySem.W.plainGet K C name=true)(hh:PySem.W.hasDictIn K C=true)
 (ha:PySem.W.findIn K (.ref C) name=some none) (hv:mA name=some v) (hv':PySem.W.handedIn v=true) (h:Q v {s with toks:=s.toks+1}) :
 wpAny (model prog w) A (getAttr (.ref x) name expr) Q E s:=by
 obtain⟨od,J,hl⟩:=I.look
 exact PySem.W.get_value X J (PySem.W.plainGet_of hg).1 (PySem.W.findObj_own hh ha rfl (by rw[hl,hv])) hv' h
theorem yn{pl:Sem Bool}{Q:Value × List Value→Shared→Prop}(X:K.In s.heap)(I:sW s.heap x dx C mA)(hg:PySem.W.plainGet K C name=true)
 (hf:PySem.W.findIn K (.ref C) name=some (some (.ref f))) (ht:PySem.W.isFn K (.ref f)=true) (hv:mA name=none) (h:Q (.ref f,[.ref x]) s) :
 wpAny (model prog w) A (getMethod (.ref x) name pl) Q E s:=by
 obtain⟨od,J,hl⟩:=I.look
 exact PySem.W.method_fn X J (PySem.W.plainGet_of hg).1 (PySem.W.plainGet_of hg).2 hf (beq_iff_eq.mp ht) (by show(PySem.W.lookIn name od).map (·.isSome)=some false;rw [hl,hv];rfl) h
theorem Bf{ns:List Str}{Q:Unit→Shared→Prop}(X:K.In s.heap)(I:sW s.heap x dx C mA)
 (hs:PySem.W.findIn K (.ref C) "__setattr__"=some (some (.builtin "object.__setattr__"))) (hp:PySem.W.plainOver K C=true) (ht:PySem.W.takerIn K C name=some none) (hh:PySem.W.hasDictIn K C=true)
 (hw:PySem.Within mA ns) (hsz:ns.length≤sizeLine)
 (h:∀h',sW h' x dx C (fun y=>if y=name then some v else mA y)→Heap.SameBut dx s.heap h'→Q () {s with heap:=h',toks:=s.toks+2}) :
 wpAny (model prog w) A (setAttr (.ref x) name v) Q E s:=by
 obtain⟨od,J,hl⟩:=I.look
 refine PySem.W.set_plain X J hs (PySem.W.osa_open (s:={s with toks:=s.toks+1}) (r:=none) X J hp ht fun b=>?_)
 obtain⟨cd,hc,hd'⟩:=PySem.W.any_some hh
 have hx:s.heap.get? x=some ⟨.ref C,some dx, .plain,#[]⟩:=I.obj
 refine wpAny_bind (wpAny_pure (wpAny_bind (wpAny_bind (wpAny_loadPart hx (wpAny_bind (PySem.W.Looks.here (s:={s with toks:=s.toks+1}) (PySem.W.looks_clsIn X hc) ?_))))))
 rw[hd']
 refine wpAny_pure (a:=some dx) (wpAny_bind (wpAny_pure (wpAny_bind ?_)))
 refine wpAny_nsSet1 (s:={s with toks:=s.toks+1}) I.ns fun h' hn2 hs2=>?_
 obtain⟨oD,esD,epD,hoD,hdD,hcD⟩:=hn2.count (PySem.Within.cons name v hw)
 refine wpAny_bind (wpAny_lookBehind hoD (by rw[hdD];exact pastItsLine_dict (Nat.le_trans hcD (by rw[List.length_cons];omega))) ?_)
 exact wpAny_pure (h _ ⟨(hs2.2 _ (Ne.symm I.ne)).trans I.obj,hn2,I.ne⟩ hs2)
theorem zC{R:Result→Shared→Prop}{vs:List Value}{kw:List (Str × Value)}(X:K.In s.heap)(hm:PySem.W.makesIn K C=true)
 (hi:PySem.W.findIn K (.ref C) "__init__"=some (some (.ref f))) (hf:PySem.W.typeIn K (.ref f)=some (.type "function"))
 (h:codeAny (model prog w) (A.under (.builtin "type.__call__" ⟨.ref C ::vs,kw⟩)) (.call (.ref f) ⟨.ref (s.heap.objs.size+1) ::vs,kw⟩) (PySem.W.InitBack (s.heap.objs.size+1) R)
   {s with heap:=(s.heap.push PySem.W.emptyDict).push (PySem.W.instObj C s.heap.objs.size)}) :
 codeAny (model prog w) A (.call (.ref C) ⟨vs,kw⟩) R s:=by
 obtain⟨hh,g,d,t,os⟩:=s
 exact PySem.W.make_core (PySem.W.makes_of X hm) (PySem.W.looks_findIn X hi) (fun self=>PySem.W.bind_fn X self hf) (.inl rfl) h
end
noncomputable def g8(f:Str)(v:V):List (Str × V)→List (Str × V)
 | []=>[(f,v)]
 | (g,x) ::r=>if g=f then(g,v) ::r else(g,x) ::g8 f v r
theorem l7(f g:Str)(v:V):∀fs:List (Str × V),(g8 f v fs).lookup g=if g=f then some v else fs.lookup g
 | []=>by
   show List.lookup g [(f,v)]=_
   by_cases h:g=f
   ·have hb:(g==f)=true:=beq_iff_eq.mpr h
    simp only[List.lookup,hb,if_pos h]
   ·have hb:(g==f)=false:=beq_eq_false_iff_ne.mpr h
    simp only[List.lookup,hb,if_neg h]
 | (k,x) ::r=>by
   have ih:=l7 f g v r
   rw[show g8 f v ((k,x) ::r)=(if k=f then(k,v) ::r else(k,x) ::g8 f v r) from rfl]
   by_cases hk:k=f
   ·rw[if_pos hk]
    by_cases h:g=k
    ·have hb:(g==k)=true:=beq_iff_eq.mpr h
     simp only[List.lookup,hb,if_pos (h.trans hk)]
    ·have hb:(g==k)=false:=beq_eq_false_iff_ne.mpr h
     simp only[List.lookup,hb,if_neg (fun e:g=f=>h (e.trans hk.symm))]
   ·rw[if_neg hk]
    by_cases h:g=k
    ·have hb:(g==k)=true:=beq_iff_eq.mpr h
     simp only[List.lookup,hb,if_neg (fun e:g=f=>hk (h.symm.trans e))]
    ·have hb:(g==k)=false:=beq_eq_false_iff_ne.mpr h
     simp only[List.lookup,hb]
     exact ih
theorem lP(f:Str)(v:V):∀fs:List (Str × V),f∈(g8 f v fs).map (·.1)∧∀g,g∈fs.map (·.1)→g∈(g8 f v fs).map (·.1)
 | []=>⟨by simp [g8],fun g h=>by simp at h⟩
 | (k,x) ::r=>by
   obtain⟨i1,i2⟩:=lP f v r
   rw[show g8 f v ((k,x) ::r)=(if k=f then(k,v) ::r else(k,x) ::g8 f v r) from rfl]
   by_cases hk:k=f
   ·rw[if_pos hk]
    subst hk
    exact⟨by simp,fun g h=>by simpa using h⟩
   ·rw[if_neg hk]
    refine⟨?_,fun g h=>?_⟩
    ·rw[List.map_cons]
     exact List.mem_cons_of_mem _ i1
    ·rw[List.map_cons] at h ⊢
     rcases List.mem_cons.mp h with e | e
     ·exact List.mem_cons.mpr (.inl e)
     ·exact List.mem_cons_of_mem _ (i2 g e)
theorem mf(f:Str)(v:V):∀fs:List (Str × V),(g8 f v fs).length≤fs.length+1
 | []=>by simp [g8]
 | (k,x) ::r=>by
   have ih:=mf f v r
   rw[show g8 f v ((k,x) ::r)=(if k=f then(k,v) ::r else(k,x) ::g8 f v r) from rfl]
   by_cases hk:k=f
   ·rw[if_pos hk,List.length_cons,List.length_cons];omega
   ·rw[if_neg hk,List.length_cons,List.length_cons];omega
theorem lj.some_of{v:V}{o:Option Value}(r:lj (some v) o):∃u,o=some u∧RelV v u:=by
 cases o with
 | none=>exact(show False from r).elim
 | some u=>exact⟨u,rfl,r⟩
theorem lj.none_of{o:Option Value}(r:lj none o):o=none:=by
 cases o with
 | none=>rfl
 | some u=>exact(show False from r).elim
theorem xb{v:V}{u:Value}(r:RelV v u):PySem.W.handedIn u=true:=by
 cases v with
 | cD=>cases(show u=Value.none from r);rfl
 | bl b=>cases(show u=Value.bool b from r);rfl
 | int i=>obtain⟨t,e⟩:=(show ∃t,u=Value.int i t from r);cases e;rfl
 | str x=>obtain⟨t,e⟩:=(show ∃t,u=Value.str x t from r);cases e;rfl
 | byt b=>obtain⟨t,e⟩:=(show ∃t,u=Value.bytes b t from r);cases e;rfl
 | flt b=>obtain⟨t,e⟩:=(show ∃t,u=Value.float b t from r);cases e;rfl
 | ref a=>cases(show u=Value.ref a from r);rfl
 | ty n=>cases(show u=Value.type n from r);rfl
section
variable {P:Program} {w:World} {H H':Hp} {h h':Heap} {a C dx:Addr} {fs fs':List (Str × V)}
theorem mR(hok:ky P w H h)(e:H a=some (.ins C dx fs)):∃mA,sW h a dx C mA∧(∀f,lj (fs.lookup f) (mA f))∧PySem.Within mA (fs.map (·.1))∧fs.length≤1000∧H dx=some (.own a):=by
 obtain⟨d,z,ne,ob,mA,n,r,q⟩:=(show dj P w H h a (.ins C dx fs) from hok a _ e)
 exact⟨mA,⟨ob,n,ne⟩,r,q,z,d⟩
end
structure sV (K:PySem.W.Frag) (C:Addr):Prop where
 pg:PySem.W.plainGet K C Str.empty=true
 hd:PySem.W.hasDictIn K C=true
 po:PySem.W.plainOver K C=true
 sa:PySem.W.findIn K (.ref C) "__setattr__"=some (some (.builtin "object.__setattr__"))
theorem sV.get{K:PySem.W.Frag}{C:Addr}(c:sV K C)(f:Str):PySem.W.plainGet K C f=true:=c.pg
noncomputable def dM(K:PySem.W.Frag)(C:Addr)(f:Str):Prop:=PySem.W.findIn K (.ref C) f=some none
theorem dM.Ew{K:PySem.W.Frag}{C:Addr}{f:Str}(n:dM K C f):PySem.W.takerIn K C f=some none:=by
 unfold PySem.W.takerIn
 rw[show PySem.W.findIn K (.ref C) f=some none from n]
 rfl
structure Ir (K:PySem.W.Frag) (C:Addr) (f:Str) (v:V) (u:Value):Prop where
 at_:PySem.W.findIn K (.ref C) f=some (some u)
 rel:RelV v u
 get:PySem.W.specialIn K u "__get__"=some none
 cp:PySem.W.copiedNames.contains f=false
structure Meth (K:PySem.W.Frag) (C:Addr) (m:Str) (f:Addr):Prop where
 at_:PySem.W.findIn K (.ref C) m=some (some (.ref f))
 fn:PySem.W.isFn K (.ref f)=true
 kp:PySem.W.keepIn K (.ref f)=true
section
variable {X:Cx} {pins:List (Addr × Obj)} {σ:St} {H:Hp} {s:Shared} {a C dx:Addr} {fs:List (Str × V)} {f:Str} {v:V} {A:Around} {E:Value→Shared→Prop}
theorem tM{b:Bool}{Q:Value→Shared→Prop}(I:Inv X pins σ H s)(e:H a=some (.ins C dx fs))(c:sV X.K C)(n:dM X.K C f)(l:fs.lookup f=some v)
 (h:∀u s',Inv X pins σ H s'→RelV v u→Q u s'):wpAny (model X.prog X.w) A (getAttr (.ref a) f b) Q E s:=by
 obtain⟨mA,O,r,_,_,_⟩:=mR I.hok e
 obtain⟨u,hu,ru⟩:=lj.some_of (v:=v) (o:=mA f) (by rw[←l];exact r f)
 exact get_map I.lJ O (c.get f) c.hd n hu (xb ru) (h u _ (I.tok _) ru)
theorem tw{m:Str}{g:Addr}{pl:Sem Bool}{Q:Value × List Value→Shared→Prop}(I:Inv X pins σ H s)(e:H a=some (.ins C dx fs))(c:sV X.K C)(k:Meth X.K C m g)(l:fs.lookup m=none)
 (h:Q (.ref g,[.ref a]) s):wpAny (model X.prog X.w) A (getMethod (.ref a) m pl) Q E s:=by
 obtain⟨mA,O,r,_,_,_⟩:=mR I.hok e
 have hn:mA m=none:=lj.none_of (by rw[←l];exact r m)
 exact yn I.lJ O (c.get m) k.at_ k.fn hn h
theorem tU{y:V}{u:Value}{Q:Unit→Shared→Prop}(I:Inv X pins σ H s)(e:H a=some (.ins C dx fs))(c:sV X.K C)(n:dM X.K C f)(hl:fs.length < 1000)(ry:RelV y u)
 (h:∀s',Inv X pins σ (upd H a (.ins C dx (g8 f y fs))) s'→Q () s'):wpAny (model X.prog X.w) A (setAttr (.ref a) f u) Q E s:=by
 obtain⟨mA,O,r,wi,_,ho⟩:=mR I.hok e
 have hz:(fs.map (·.1)).length≤sizeLine:=by rw[List.length_map,sizeLine_eq];omega
 refine Bf I.lJ O c.sa c.po n.Ew c.hd wi hz fun h' O' sb=>h _ ?_
 have hd:∃o,h'.get? dx=some o:=let⟨o,_,_,e',_⟩:=O'.ns;⟨o,e'⟩
 refine I.write (x:=a) (e:=dx) (by rw[e];exact True.intro) (.inr ho) (fun b q hb z=>(sb.2 b hb).trans z) hd ?_
 refine⟨by rw[bf O.ne];exact ho,?_,O.ne,O'.obj,_,O'.ns,fun g=>?_,fun g hg=>?_⟩
 ·have:=mf f y fs;omega
 ·show lj ((g8 f y fs).lookup g) (if g=f then some u else mA g)
  rw[l7]
  by_cases q:g=f
  ·rw[if_pos q,if_pos q];exact ry
  ·rw[if_neg q,if_neg q];exact r g
 ·by_cases q:g=f
  ·rw[q];exact(lP f y fs).1
  ·refine(lP f y fs).2 g (wi g fun z=>hg ?_)
   show(if g=f then some u else mA g)=none
   rw[if_neg q];exact z
theorem Inv.made(I:Inv X pins σ H s):Inv X pins σ (upd (upd H s.heap.objs.size (.own (s.heap.objs.size+1))) (s.heap.objs.size+1) (.ins C s.heap.objs.size []))
 {s with heap:=(s.heap.push PySem.W.emptyDict).push (PySem.W.instObj C s.heap.objs.size)}:=by
 have e1:(s.heap.push PySem.W.emptyDict).get? s.heap.objs.size=some PySem.W.emptyDict:=Heap.get?_push_size s.heap rfl
 have e2:((s.heap.push PySem.W.emptyDict).push (PySem.W.instObj C s.heap.objs.size)).get? (s.heap.objs.size+1)=some (PySem.W.instObj C s.heap.objs.size):=by
  have:=Heap.get?_push_size (s.heap.push PySem.W.emptyDict) (o:=PySem.W.instObj C s.heap.objs.size) rfl
  rwa [Heap.size_push] at this
 have e3:(s.heap.push PySem.W.emptyDict).Ns s.heap.objs.size (fun _=>none):=⟨PySem.W.emptyDict,#[],_,e1,rfl,(fun e he=>absurd he (by simp)),fun _=>rfl⟩
 have I1:=I.laid (a:=s.heap.objs.size) (o:= .own (s.heap.objs.size+1)) (h':=s.heap.push PySem.W.emptyDict) (t':=s.toks) (fun b u q=>Heap.get?_push_of_some _ q) (Nat.le_refl _) ⟨_,e1⟩
 refine I1.laid (a:=s.heap.objs.size+1) (o:= .ins C s.heap.objs.size []) (t':=s.toks) (fun b u q=>Heap.get?_push_of_some _ q) (Nat.le_of_eq (Heap.size_push _ _)) ?_
 have ne:s.heap.objs.size≠s.heap.objs.size+1:=Nat.ne_of_lt (Nat.lt_succ_self _)
 refine⟨by rw[bf ne,bc],Nat.zero_le _,ne,e2,fun _=>none,(Heap.Ns1.of_empty e3).at fun o q=>Heap.get?_push_of_some _ q,fun _=>True.intro,fun y hy=>absurd rfl hy⟩
theorem AZ{prog:Program}{w:World}{env:Env}{e:Expr}{f:Str}{pos:Pos}{s:Shared}{Q:Value→Shared→Prop}(hb:attributeBase e f env (eval e env)=eval e env)
 (h:wpAny (model prog w) A (eval e env) (fun o s₁=>wpAny (model prog w) A (getAttr o f true) Q E s₁) E s):wpAny (model prog w) A (eval (.Attribute e f pos) env) Q E s:=
 Attribute_any_ h (by rw[arm_eval_Attribute,hb])
end
noncomputable def GI(K:PySem.W.Frag)(ta:TE)(f:Str):TE:=fun σ H Q=>ta σ H fun x H1=>∃a C dx fs v,x= .ref a∧H1 a=some (.ins C dx fs)∧sV K C∧dM K C f∧fs.lookup f=some v∧Q v H1
noncomputable def IE(K:PySem.W.Frag)(ta:TE)(f:Str):TE:=fun σ H Q=>ta σ H fun x H1=>∃a C dx fs v u,x= .ref a∧H1 a=some (.ins C dx fs)∧sV K C∧Ir K C f v u∧fs.lookup f=none∧Q v H1
noncomputable def G4(K:PySem.W.Frag)(ta tv:TE)(f:Str):TS:=fun D σ H=>tv σ H fun y H1=>ta σ H1 fun x H2=>∃a C dx fs,x= .ref a∧H2 a=some (.ins C dx fs)∧sV K C∧dM K C f∧fs.length < 1000∧
 D.nx σ (upd H2 a (.ins C dx (g8 f y fs)))
noncomputable def IW(X:Cx)(op:Operator)(rd:V→V→Hp→VK→Prop):Prop:=
 ∀(pins:List (Addr × Obj)) (s:Shared) (σ:St) (H:Hp) (x y:V) (u v:Value) (Q:VK),Inv X pins σ H s→RelV x u→RelV y v→rd x y H Q→wpAny (model X.prog X.w) X.A (inplaceOp op u v) (EP X pins σ Q) X.xe s
noncomputable def F0(K:PySem.W.Frag)(ta tv:TE)(rd:V→V→Hp→VK→Prop)(f:Str):TS:=fun D σ H=>ta σ H fun x H1=>∃a C dx fs v,x= .ref a∧H1 a=some (.ins C dx fs)∧sV K C∧dM K C f∧fs.lookup f=some v∧
 tv σ H1 fun y H2=>rd v y H2 fun z H3=>∃dx' fs',H3 a=some (.ins C dx' fs')∧fs'.length < 1000∧D.nx σ (upd H3 a (.ins C dx' (g8 f z fs')))
section
variable {X:Cx} {o e value:Expr} {f:Str} {pos pos' tpos:Pos} {ta tv:TE}
theorem Cc(he:PE X e ta)(hb:attributeBase e f X.env (eval e X.env)=eval e X.env):PE X (.Attribute e f pos) (GI X.K ta f):=by
 intro pins s σ H Q I h
 refine AZ hb (dg (he pins s σ H _ I h) fun u s1 ⟨x,H1,I1,rx,a,C,dx,fs,v,ex,ea,c,n,l,q⟩=>?_)
 subst ex
 obtain rfl:u=Value.ref a:=rx
 exact tM I1 ea c n l fun u' s2 I2 ru=>⟨v,H1,I2,ru,q⟩
theorem CN(ha:PE X o ta)(hv:PE X value tv)(hs:swapsWith value (some (.Attribute o f pos')) pos.line X.env=pure false):PS X (.Assign [.Attribute o f pos'] value pos) (G4 X.K ta tv f):=by
 intro pins s σ H D I h
 refine plainObj_wpAny_Assign_Attribute (dg (hv pins s σ H _ I h) fun u s1 ⟨y,H1,I1,ry,q⟩=>dg (ha pins s1 σ H1 _ I1 q) fun ov s2 ⟨x,H2,I2,rx,a,C,dx,fs,ex,ea,c,n,l,q2⟩=>?_) hs
 subst ex
 obtain rfl:ov=Value.ref a:=rx
 exact tU I2 ea c n l ry fun s3 I3=>⟨σ,_,I3,q2⟩
noncomputable def Ig:V→V→Hp→VK→Prop:=fun x y H Q=>∃i j,x= .int i∧y= .int j∧Q (.int (i+j)) H
noncomputable def Io:V→V→Hp→VK→Prop:=fun x y H Q=>∃i j,x= .int i∧y= .int j∧Q (.int (i - j)) H
end
section
variable {X:Cx} {pins:List (Addr × Obj)} {σ:St} {H:Hp} {s:Shared} {A:Around} {E:Value→Shared→Prop} {Q:Value→Shared→Prop} {c:Value} {b:Bool}
inductive mL (K:PySem.W.Frag) (H:Hp):V→Value→Prop where
 | cD:mL K H .cD (.type "NoneType")
 | bl (x:Bool):mL K H (.bl x) (.type "bool")
 | int (i:Int):mL K H (.int i) (.type "int")
 | str (x:Str):mL K H (.str x) (.type "str")
 | flt (x:UInt64):mL K H (.flt x) (.type "float")
 | lst {a:Addr} {xs:List V} (e:H a=some (.lst xs)):mL K H (.ref a) (.type "list")
 | g6 {a:Addr} {o:Obj} {xs:List V} (e:H a=some (.g6 o (.lst xs))):mL K H (.ref a) (.type "list")
 | tup {a:Addr} {xs:List V} (e:H a=some (.tup xs)):mL K H (.ref a) (.type "tuple")
 | dK {a:Addr} {kvs:List (Key × V)} (e:H a=some (.dK kvs)):mL K H (.ref a) (.type "dict")
 | dT {a:Addr} {kvs:List (List Key × V)} (e:H a=some (.dT kvs)):mL K H (.ref a) (.type "dict")
 | ins {a C dx:Addr} {fs:List (Str × V)} (e:H a=some (.ins C dx fs)) (cl:sV K C) (ha:PySem.W.findIn K (.ref C) "__class__"=some (some (.builtin "object.__class__")))
    (hn:PySem.W.specialIn K (.builtin "object.__class__") "__get__"=some (some (.builtin "getset_descriptor.__get__"))) (htk:PySem.W.takesIn K (.builtin "object.__class__")=some true)
    (hm:PySem.W.mroIn K C (.type "object")=some true):mL K H (.ref a) (.ref C)
theorem jX{x:V}{u t:Value}(I:Inv X pins σ H s)(rx:RelV x u)(ty:mL X.K H x t)(e:PySem.W.kitOne X.K t c=some b)(h:∀tk,Q (.bool b) {s with toks:=tk}) :
 wpAny (model X.prog X.w) A (call (.builtin "isinstance") [u,c]) Q E s:=by
 cases ty with
 | cD=>cases(show u=Value.none from rx);exact PySem.W.kia_one PySem.W.kitx_none I.lJ True.intro e (fun z=>nomatch z) h
 | bl y=>cases(show u=Value.bool y from rx);exact PySem.W.kia_one PySem.W.kitx_bool I.lJ True.intro e (fun z=>nomatch z) h
 | int i=>obtain⟨t,q⟩:=(show ∃t,u=Value.int i t from rx);cases q;exact PySem.W.kia_one PySem.W.kitx_int I.lJ True.intro e (fun z=>nomatch z) h
 | str y=>obtain⟨t,q⟩:=(show ∃t,u=Value.str y t from rx);cases q;exact PySem.W.kia_one PySem.W.kitx_str I.lJ True.intro e (fun z=>nomatch z) h
 | flt y=>obtain⟨t,q⟩:=(show ∃t,u=Value.float y t from rx);cases q;exact PySem.W.kia_one PySem.W.kitx_float I.lJ True.intro e (fun z=>nomatch z) h
 | @lst a xs ea=>
   cases(show u=Value.ref a from rx)
   obtain⟨_,_,n,_,h1⟩:=(show dj X.prog X.w H s.heap a (.lst xs) from I.hok a _ ea)
   exact PySem.W.kia_one PySem.W.kitx_list I.lJ ⟨_,h1,rfl⟩ e (fun z=>nomatch z) h
 | @g6 a ob xs ea=>
   cases(show u=Value.ref a from rx)
   obtain⟨_,_,_,n,_,h1⟩:=(show dj X.prog X.w H s.heap a (.g6 ob (.lst xs)) from I.hok a _ ea)
   exact PySem.W.kia_one PySem.W.kitx_list I.lJ ⟨_,h1,rfl⟩ e (fun z=>nomatch z) h
 | @tup a xs ea=>
   cases(show u=Value.ref a from rx)
   obtain⟨_,_,_,p⟩:=(show dj X.prog X.w H s.heap a (.tup xs) from I.hok a _ ea)
   obtain⟨o,h1,h2,_⟩:=p
   exact PySem.W.kia_one PySem.W.kitx_tuple I.lJ ⟨o,h1,h2⟩ e (fun z=>nomatch z) h
 | @dK a kvs ea=>
   cases(show u=Value.ref a from rx)
   obtain⟨_,_,vs,_,p⟩:=(show dj X.prog X.w H s.heap a (.dK kvs) from I.hok a _ ea)
   obtain⟨o,es,ep,h1,h2,_⟩:=p
   exact PySem.W.kia_one PySem.W.kitx_dict I.lJ ⟨o,h1,h2.1⟩ e (fun z=>nomatch z) h
 | @dT a kvs ea=>
   cases(show u=Value.ref a from rx)
   obtain⟨_,_,xs,_,o,es,ep,h1,h2,_⟩:=(show dj X.prog X.w H s.heap a (.dT kvs) from I.hok a _ ea)
   exact PySem.W.kia_one PySem.W.kitx_dict I.lJ ⟨o,h1,h2.1⟩ e (fun z=>nomatch z) h
 | @ins a C dx fs ea cl ha hn htk hm=>
   cases(show u=Value.ref a from rx)
   obtain⟨mA,O,_⟩:=mR I.hok ea
   obtain⟨od,J,_⟩:=O.look
   exact PySem.W.kia_one (PySem.W.kitx_own (cl.get _) cl.hd ha hn htk hm) I.lJ J e (fun z=>nomatch z) h
end
end L2
namespace L2
open PySem PySem.Spec PyProof.Rows
structure dG (k:Nat) (A:Around):Prop where
 hd:A.handled=none
 dp:A.depth+3*k+5 < recursionLimit
 un:A.units+16*k+200 < cLine
theorem dG.mono{j k:Nat}{A:Around}(r:dG k A)(h:j≤k):dG j A:=⟨r.hd,by have:=r.dp;omega,by have:=r.un;omega⟩
theorem dG.deeper{k:Nat}{A:Around}(r:dG (k+1) A)(env:Env):dG k (A.deeper env):=
 ⟨r.hd,by have:=r.dp;show A.depth+1+3*k+5 < _;omega,by have:=r.un;show A.units+3+16*k+200 < _;omega⟩
theorem uu{A:Around}{C:Addr}{us:List Value}{kw:List (Str × Value)}:(A.under (.builtin "type.__call__" ⟨.ref C ::us,kw⟩)).depth=A.depth+1:=by
 first | rfl | simp [Around.under,Code.weight,Code.isCreation,Code.isGuard,Code.isCaller,Code.frames,Code.isFrame,guardIds]
theorem t8{A:Around}{C:Addr}{us:List Value}{kw:List (Str × Value)}:(A.under (.builtin "type.__call__" ⟨.ref C ::us,kw⟩)).units=A.units+1:=by
 first | rfl | simp [Around.under,Code.cUnits,Code.frames,Code.isFrame]
theorem dG.make{k:Nat}{A:Around}(r:dG (k+1) A)(C:Addr)(us:List Value)(kw:List (Str × Value)):dG k (A.under (.builtin "type.__call__" ⟨.ref C ::us,kw⟩)):=
 ⟨r.hd,by have:=r.dp;rw [uu];omega,by have:=r.un;rw [t8];omega⟩
theorem dG.depth{k:Nat}{A:Around}(r:dG k A):A.depth < recursionLimit:=by have:=r.dp;omega
theorem dG.units{k:Nat}{A:Around}(r:dG k A):A.units+64 < cLine:=by have:=r.un;omega
noncomputable def GA:TA:=fun _ H Q=>Q [] H
noncomputable def EX(ta:TE)(tr:TA):TA:=fun σ H Q=>ta σ H fun x H1=>tr σ H1 fun xs H2=>Q (x ::xs) H2
section
variable {X:Cx} {e:Expr} {es:List Expr} {te:TE} {t:TA} {pos:Pos}
theorem g9:PA X [] GA:=fun _ _ _ _ H Q I h=>Calls.spliced_nil ⟨[],H,I, .nil,h⟩
theorem eU(ha:PE X e te)(hr:PA X es t)(hs:starEach (e ::es) X.env=(false,eval e X.env) ::starEach es X.env:=by rfl):PA X (e ::es) (EX te t):=by
 intro pos pins s σ H Q I h
 rw[hs]
 show wpAny _ _ (spliced ((false,eval e X.env) ::backTo pos (starEach es X.env))) _ _ s
 refine Calls.spliced_cons (dg (ha pins s σ H _ I h) fun u s1 ⟨x,H1,I1,r1,q1⟩=>?_)
 exact dg (hr pos pins s1 σ H1 _ I1 q1) fun us s2 ⟨xs,H2,I2,r2,q2⟩=>⟨x ::xs,H2,I2, .cons r1 r2,q2⟩
noncomputable def Gz(t:TA):TE:=fun σ H Q=>t σ H fun xs H1=>xs.length≤sizeLine∧∀p,H1 p=none→Q (.ref p) (upd H1 p (.tup xs))
noncomputable def Gr(t:TA):TE:=fun σ H Q=>t σ H fun xs H1=>xs.length≤sizeLine∧∀p,H1 p=none→Q (.ref p) (upd H1 p (.lst xs))
theorem yo{x1}(h:PA X es t):PE X (.Tuple es x1 pos) (Gz t):=by
 intro pins s σ H Q I hq
 refine wpAny_Tuple_spliced (dg (h pos pins s σ H _ I hq) fun us s1 ⟨xs,H1,I1,r,z,q⟩=>⟨by rw[←r.length];exact z,?_⟩)
 have hf:H1 s1.heap.objs.size=none:=I1.hok.fresh (Nat.le_refl _)
 refine⟨.ref s1.heap.objs.size,upd H1 s1.heap.objs.size (.tup xs),I1.laid (t':=s1.toks) (fun b u e=>Heap.get?_push_of_some _ e) (Nat.le_refl _) ?_,rfl,q _ hf⟩
 exact⟨z,us,r,⟨_,Heap.get?_push_size _ rfl,rfl,_,rfl⟩⟩
theorem yA(h:PA X es t):PE X (.List es pos) (Gr t):=by
 intro pins s σ H Q I hq
 refine wpAny_List_spliced (dg (h pos pins s σ H _ I hq) fun us s1 ⟨xs,H1,I1,r,z,q⟩=>⟨by rw[←r.length];exact z,?_⟩)
 have hf:H1 s1.heap.objs.size=none:=I1.hok.fresh (Nat.le_refl _)
 refine⟨.ref s1.heap.objs.size,upd H1 s1.heap.objs.size (.lst xs),I1.laid (t':=s1.toks) (fun b u e=>Heap.get?_push_of_some _ e) (Nat.le_refl _) ?_,rfl,q _ hf⟩
 exact⟨z,us,0,r,Heap.get?_push_size _ rfl⟩
end
noncomputable abbrev Sp:=List V→Hp→VK→XK→Prop
noncomputable abbrev xC:=List Env→Hp→Shared→XK→Value→Shared→Prop
structure ui (P:Program) (w:World) (K:PySem.W.Frag) (mg:Str→Option Value) (base:Heap) (A:Around) (outer:List Env) (s:Shared) (H:Hp):Prop where
 frames:A.frames=some outer
 mod:Mod K mg base
 bs:∀b o,base.get? b=some o→s.heap.get? b=some o∧H b=none
 bsz:base.objs.size≤s.heap.objs.size
 mK:s.heap.FunFrames base outer
 frf:∀b∈xh outer,H b=none
 hok:ky P w H s.heap
 bare:AllBare s.gens
noncomputable def CE(outer:List Env)(P:Program)(w:World)(H:Hp)(s:Shared)(Q:VK)(u:Value)(s':Shared):Prop:=
 ∃v H',s'.os=s.os∧AllBare s'.gens∧Un (xh outer) [] H H' s.heap s'.heap∧ky P w H' s'.heap∧RelV v u∧Q v H'
noncomputable def CR(CX:xC)(outer:List Env)(P:Program)(w:World)(H:Hp)(s:Shared)(Q:VK)(E:XK)(r:Result)(s':Shared):Prop:=
 match r with
 | .ok (.ret u)=>CE outer P w H s Q u s'
 | .ok _=>False
 | .error e=>CX outer H s E e s'
structure gC (P:Program) (w:World) (K:PySem.W.Frag) (mg:Str→Option Value) (base:Heap) (CX:xC) (k:Nat) (f:Addr) (fd:FuncData) (ps:List Str) (sp:Sp):Prop where
 len:∀vs H Q E,sp vs H Q E→vs.length=ps.length
 run:∀(A:Around) (outer:List Env) (s:Shared) (H:Hp) (args:Args) (us:List Value) (vs:List V) (Q:VK) (E:XK),dG k A→ui P w K mg base A outer s H→BindsTo s fd args (ps.zip us)→Vals vs us→sp vs H Q E→
  codeAny (model P w) A (.call (.ref f) args) (CR CX outer P w H s Q E) s
theorem gC.imp{P:Program}{w:World}{K:PySem.W.Frag}{mg:Str→Option Value}{base:Heap}{CX:xC}{k:Nat}{f:Addr}{fd:FuncData}{ps:List Str}{sp sp':Sp}(F:gC P w K mg base CX k f fd ps sp)
 (h:∀vs H Q E,sp' vs H Q E→sp vs H Q E):gC P w K mg base CX k f fd ps sp':=
 ⟨fun vs H Q E q=>F.len vs H Q E (h _ _ _ _ q),fun A outer s H args us vs Q E hr he hb hv hs=>F.run A outer s H args us vs Q E hr he hb hv (h _ _ _ _ hs)⟩
theorem ui.make{P:Program}{w:World}{K:PySem.W.Frag}{mg:Str→Option Value}{base:Heap}{A:Around}{outer:List Env}{s:Shared}{H:Hp}(e:ui P w K mg base A outer s H)(C:Addr)(us:List Value)(kw:List (Str × Value)) :
 ui P w K mg base (A.under (.builtin "type.__call__" ⟨.ref C ::us,kw⟩)) outer s H:=⟨by first | exact e.frames | (simpa [Around.under,Code.envs,Code.isFrame,pushEnvs] using e.frames),e.mod,e.bs,e.bsz,e.mK,e.frf,e.hok,e.bare⟩
section
variable {X:Cx} {pins:List (Addr × Obj)} {σ:St} {H:Hp} {s s':Shared}
theorem Inv.Fp(I:Inv X pins σ H s):ui X.prog X.w X.K X.mg X.base X.A X.stack s H:=
 ⟨I.ok.frames,I.ok.mod,I.bs,Nat.le_trans I.ok.bsz I.sz,I.stack,I.vc,I.hok,I.bare⟩
theorem Inv.after{Q:VK}{u:Value}(I:Inv X pins σ H s)(h:CE X.stack X.prog X.w H s Q u s'):EP X pins σ Q u s':=by
 obtain⟨v,H',os,bare,un,hok,r,q⟩:=h
 obtain⟨hh,g,d,t,os'⟩:=s'
 obtain rfl:os'=s.os:=os
 exact⟨v,H',I.call (h':=hh) (g':=g) (d':=d) (t':=t) (ch:=[]) un hok bare (fun b z=>absurd z (by simp)),r,q⟩
end
noncomputable def Fv(sp:Sp)(dvs:List V)(E:XK)(t:TA):TE:=fun σ H Q=>t σ H fun vs H1=>sp (vs++dvs) H1 Q E
noncomputable def FL(C:Addr)(m:Str)(sp:Sp)(dvs:List V)(E:XK)(ta:TE)(t:TA):TE:=fun σ H Q=>ta σ H fun x H1=>∃a dx fs,x= .ref a∧H1 a=some (.ins C dx fs)∧fs.lookup m=none∧
 t σ H1 fun vs H2=>sp (x ::(vs++dvs)) H2 Q E
noncomputable def FJ(C:Addr)(sp:Sp)(dvs:List V)(E:XK)(t:TA):TE:=fun σ H Q=>t σ H fun vs H1=>∀x dx,H1 x=none→H1 dx=none→dx≠x→
 sp (.ref x ::(vs++dvs)) (upd (upd H1 dx (.own x)) x (.ins C dx [])) (fun v H2=>v= .cD∧Q (.ref x) H2) E
noncomputable def Binds(K:PySem.W.Frag)(fd:FuncData)(ps:List Str)(ds:List Value):Prop:=
 ∀(s:Shared) (us:List Value),K.In s.heap→(us++ds).length=ps.length→BindsTo s fd ⟨us,[]⟩ (ps.zip (us++ds))
theorem Binds.all{K:PySem.W.Frag}{fd:FuncData}{ps:List Str}(h:∀us:List Value,us.length=ps.length→bindArgs fd ⟨us,[]⟩=pure (ps.zip us)):Binds K fd ps []:=fun s us _ hl=>by
 rw[List.append_nil] at hl ⊢
 exact .of_eq (h us hl)
noncomputable def Passes(CX:xC)(X:Cx)(E:XK):Prop:=∀(pins:List (Addr × Obj)) (σ:St) (H:Hp) (s:Shared) (e:Value) (s':Shared),Inv X pins σ H s→CX X.stack H s E e s'→X.xe e s'
section
variable {X:Cx} {CX:xC} {k:Nat} {f C:Addr} {fd:FuncData} {ps:List Str} {sp:Sp} {dvs:List V} {ds:List Value} {E:XK} {x m:Str} {p pos apos:Pos} {e o:Expr} {es:List Expr} {ta:TE} {t:TA}
theorem yS{pins:List (Addr × Obj)}{σ:St}{H:Hp}{s:Shared}{Q:VK}{us:List Value}{vs:List V}(F:gC X.prog X.w X.K X.mg X.base CX k f fd ps sp)(hr:dG k X.A)(hb:Binds X.K fd ps ds)(hd:Vals dvs ds)(hx:Passes CX X E)
 (I:Inv X pins σ H s) (r:Vals vs us) (h:sp (vs++dvs) H Q E):wpAny (model X.prog X.w) X.A (call (.ref f) us) (EP X pins σ Q) X.xe s:=by
 have r2:Vals (vs++dvs) (us++ds):=r.append hd
 have hl:(us++ds).length=ps.length:=by rw[←r2.length];exact F.len _ _ _ _ h
 refine wpAny_call (codeAny_mono (F.run X.A X.stack s H ⟨us,[]⟩ (us++ds) (vs++dvs) Q E hr I.Fp (hb s us I.lJ hl) r2 h) fun r s' hq=>?_)
 cases r with
 | error e=>exact hx pins σ H s e s' I hq
 | ok fl=>
   cases fl with
   | ret u=>exact I.after hq
   | next=>exact False.elim hq
   | brk=>exact False.elim hq
   | cont=>exact False.elim hq
theorem qc(F:gC X.prog X.w X.K X.mg X.base CX k f fd ps sp)(hr:dG k X.A)(hg:Gl X x)(hm:X.mg x=some (.ref f))(hk:PySem.W.keepIn X.K (.ref f)=true)(hb:Binds X.K fd ps ds)(hd:Vals dvs ds)(hx:Passes CX X E)
 (ha:PA X (e ::es) t) (hdb:(x==("__debug__":Str))=false:=by decide) (he:starEach (e ::es) X.env=(false,eval e X.env) ::starEach es X.env:=by rfl) (hpl:(backTo pos (starEach es X.env)).any (·.1)=false:=by rfl) :
 PE X (.Call (.Name x p) (e ::es) [] pos) (Fv sp dvs E t):=by
 intro pins s σ H Q I h
 refine wpAny_Call_Name_kw (u9 I hg hm ?_ hdb)
 refine PySem.W.callWith_K (h₀:=X.base) I.ok.mod.kin hk (dg (ha pos pins s σ H _ I h) fun us s1 ⟨vs,H1,I1,r,q⟩=>⟨I1.lJ,?_⟩) he hpl
 exact yS F hr hb hd hx I1 r q
theorem AM{pl:Sem Bool}(he:PE X o ta)(c:sV X.K C)(hm:Meth X.K C m f)(F:gC X.prog X.w X.K X.mg X.base CX k f fd ps sp)(hr:dG k X.A)(hb:Binds X.K fd ps ds)(hd:Vals dvs ds)(hx:Passes CX X E)(ha:PA X (e ::es) t)
 (hst:starEach (e ::es) X.env=(false,eval e X.env) ::starEach es X.env:=by rfl) (hpl:(backTo pos (starEach es X.env)).any (·.1)=false:=by rfl)
 (ht:eval (.Call (.Attribute o m apos) (e ::es) [] pos) X.env=(do
   let ov ←eval o X.env
   standAt apos.atName
   let(f,first) ←holding [ov] (getMethod ov m pl)
   callWith pos f first (backTo pos (starEach (e ::es) X.env)) (backToKw pos (keywordEach [] X.env))):=by rfl) :
 PE X (.Call (.Attribute o m apos) (e ::es) [] pos) (FL C m sp dvs E ta t):=by
 intro pins s σ H Q I h
 refine PySem.W.methodCall_KW (pl:=pl) (dg (he pins s σ H _ I h) fun u s1 ⟨x,H1,I1,rx,a,dx,fs,ex,ea,l,q⟩=>?_) ht
 subst ex
 obtain rfl:u=Value.ref a:=rx
 refine tw I1 ea c hm l ?_
 refine PySem.W.callWith_K (first:=[.ref a]) (h₀:=X.base) I.ok.mod.kin hm.kp (dg (ha pos pins s1 σ H1 _ I1 q) fun us s2 ⟨vs,H2,I2,r,q2⟩=>⟨I2.lJ,?_⟩) hst hpl
 exact yS (us:= .ref a ::us) (vs:= .ref a ::vs) F hr hb hd hx I2 (.cons rfl r) q2
structure Mk (K:PySem.W.Frag) (C f:Addr):Prop where
 makes:PySem.W.makesIn K C=true
 init:PySem.W.findIn K (.ref C) "__init__"=some (some (.ref f))
 fn:PySem.W.isFn K (.ref f)=true
 kp:PySem.W.keepIn K (.ref C)=true
theorem y8{pins:List (Addr × Obj)}{σ:St}{H:Hp}{s:Shared}{Q:VK}{us:List Value}{vs:List V}(M:Mk X.K C f)(F:gC X.prog X.w X.K X.mg X.base CX k f fd ps sp)(hr:dG (k+1) X.A)(hb:Binds X.K fd ps ds)(hd:Vals dvs ds)
 (hx:Passes CX X E) (I:Inv X pins σ H s) (r:Vals vs us)
 (h:∀x dx,H x=none→H dx=none→dx≠x→sp (.ref x ::(vs++dvs)) (upd (upd H dx (.own x)) x (.ins C dx [])) (fun v H2=>v= .cD∧Q (.ref x) H2) E) :
 wpAny (model X.prog X.w) X.A (call (.ref C) us) (EP X pins σ Q) X.xe s:=by
 have hq:=h (s.heap.objs.size+1) s.heap.objs.size (I.hok.fresh (Nat.le_succ _)) (I.hok.fresh (Nat.le_refl _)) (Nat.ne_of_lt (Nat.lt_succ_self _))
 have I2:=Inv.made (C:=C) I
 have r2:Vals (V.ref (s.heap.objs.size+1) ::(vs++dvs)) (Value.ref (s.heap.objs.size+1) ::(us++ds)):= .cons rfl (r.append hd)
 have hl:(Value.ref (s.heap.objs.size+1) ::us++ds).length=ps.length:=by
  have e:=r2.length
  rw[F.len _ _ _ _ hq] at e
  exact e.symm
 refine wpAny_call (zC (f:=f) I.lJ M.makes M.init (beq_iff_eq.mp M.fn) (codeAny_mono (F.run _ X.stack _ _ ⟨Value.ref (s.heap.objs.size+1) ::us,[]⟩ (Value.ref (s.heap.objs.size+1) ::(us++ds)) _ _ E (hr.make C us [])
  (I2.Fp.make C us []) (hb _ (Value.ref (s.heap.objs.size+1) ::us) I2.lJ hl) r2 hq) fun r s' hq'=>?_))
 cases r with
 | error e=>exact hx pins σ _ _ e s' I2 hq'
 | ok fl=>
   cases fl with
   | ret u=>
     obtain⟨v,H',I3,rv,ev,q3⟩:=I2.after hq'
     subst ev
     exact⟨rv,⟨V.ref (s.heap.objs.size+1),H',I3,rfl,q3⟩⟩
   | next=>exact False.elim hq'
   | brk=>exact False.elim hq'
   | cont=>exact False.elim hq'
theorem Bg(M:Mk X.K C f)(F:gC X.prog X.w X.K X.mg X.base CX k f fd ps sp)(hr:dG (k+1) X.A)(hg:Gl X x)(hm:X.mg x=some (.ref C))(hb:Binds X.K fd ps ds)(hd:Vals dvs ds)(hx:Passes CX X E)
 (ha:PA X (e ::es) t) (hdb:(x==("__debug__":Str))=false:=by decide) (he:starEach (e ::es) X.env=(false,eval e X.env) ::starEach es X.env:=by rfl) (hpl:(backTo pos (starEach es X.env)).any (·.1)=false:=by rfl) :
 PE X (.Call (.Name x p) (e ::es) [] pos) (FJ C sp dvs E t):=by
 intro pins s σ H Q I h
 refine wpAny_Call_Name_kw (u9 I hg hm ?_ hdb)
 refine PySem.W.callWith_K (h₀:=X.base) I.ok.mod.kin M.kp (dg (ha pos pins s σ H _ I h) fun us s1 ⟨vs,H1,I1,r,q⟩=>⟨I1.lJ,?_⟩) he hpl
 exact y8 M F hr hb hd hx I1 r q
end
noncomputable def PK(X:Cx)(kws:List Keyword)(t:TA):Prop:=
 ∀(pos:Pos) (pins:List (Addr × Obj)) (s:Shared) (σ:St) (H:Hp) (Q:List V→Hp→Prop),Inv X pins σ H s→t σ H Q→wpAny (model X.prog X.w) X.A (evalAll ((backToKw pos (keywordEach kws X.env)).map (·.2))) (AP X pins σ Q) X.xe s
section
variable {X:Cx} {CX:xC} {k:Nat} {f C:Addr} {fd:FuncData} {ps ks:List Str} {sp:Sp} {E:XK} {x m:Str} {p pos apos kpos:Pos} {e o:Expr} {es:List Expr} {kws:List Keyword} {te ta:TE} {t tk:TA} {nm:Option Str}
structure Gm (K:PySem.W.Frag) (fd:FuncData) (ps ks:List Str) (g:List Value→List Value→List Value) (gV:List V→List V→List V):Prop where
 to:∀(s:Shared) (us ws:List Value),K.In s.heap→(g us ws).length=ps.length→BindsTo s fd ⟨us,ks.zip ws⟩ (ps.zip (g us ws))
 rel:∀{vs:List V} {us:List Value} {zs:List V} {ws:List Value},Vals vs us→Vals zs ws→Vals (gV vs zs) (g us ws)
noncomputable def GB(sp:Sp)(gV:List V→List V→List V)(E:XK)(t tk:TA):TE:=fun σ H Q=>t σ H fun vs H1=>tk σ H1 fun zs H2=>sp (gV vs zs) H2 Q E
variable {g:List Value→List Value→List Value} {gV:List V→List V→List V}
end
structure aX (N P:List Str) (sc:Scope):Prop where
 kind:sc.kind= .function
 co:sc.isCoroutine=false
 gen:sc.isGenerator=false
 nd:N.Nodup
 pre:N.take P.length=P
 par:∀x∈P,sc.names.lookup x=some .local∨sc.names.lookup x=some .cell
 nofree:∀y∈sc.names,y.2≠ .free
theorem p7{kindOf:Str→Option NameKind}{x:Str}:∀{binds:List (Str × Value)} {m:Str→Option Value},(∀v,(x,v) ∉ binds)→bindL kindOf binds m x=m x
 | [],_,_=>rfl
 | (n,v) ::r,m,h=>by
   unfold bindL
   rw[p7 fun w hw=>h w (List.mem_cons_of_mem _ hw)]
   split
   ·have:x≠n:=by rintro rfl;exact h v List.mem_cons_self
    simp [this]
   ·rfl
theorem pH{kindOf:Str→Option NameKind}{x:Str}:∀{binds:List (Str × Value)} {m:Str→Option Value},(∀v,(x,v) ∉ binds)→bindC kindOf binds m x=m x
 | [],_,_=>rfl
 | (n,v) ::r,m,h=>by
   unfold bindC
   rw[pH fun w hw=>h w (List.mem_cons_of_mem _ hw)]
   split
   ·rfl
   ·have:x≠n:=by rintro rfl;exact h v List.mem_cons_self
    simp [this]
theorem pK{kindOf:Str→Option NameKind}{x:Str}{v:Value}:∀{P:List Str} {vs:List Value} {i:Nat} {m:Str→Option Value},P.Nodup→P[i]? =some x→vs[i]? =some v→kindOf x=some .local→
 bindL kindOf (P.zip vs) m x=some v
 | [],_,_,_,_,h,_,_=>by simp at h
 | _ ::_,[],_,_,_,_,h,_=>by simp at h
 | p ::P,w ::vs,0,m,nd,h1,h2,hk=>by
   simp at h1 h2;subst h1;subst h2
   show bindL kindOf ((p,w) ::P.zip vs) m p=_
   unfold bindL
   rw[p7 fun v hv=>(List.nodup_cons.mp nd).1 (List.of_mem_zip hv).1,if_pos hk]
   simp
 | p ::P,w ::vs,i+1,m,nd,h1,h2,hk=>by
   show bindL kindOf ((p,w) ::P.zip vs) m x=_
   unfold bindL
   exact pK (i:=i) (List.nodup_cons.mp nd).2 (by simpa using h1) (by simpa using h2) hk
theorem p6{kindOf:Str→Option NameKind}{x:Str}{v:Value}:∀{P:List Str} {vs:List Value} {i:Nat} {m:Str→Option Value},P.Nodup→P[i]? =some x→vs[i]? =some v→kindOf x≠some .local→
 bindC kindOf (P.zip vs) m x=some v
 | [],_,_,_,_,h,_,_=>by simp at h
 | _ ::_,[],_,_,_,_,h,_=>by simp at h
 | p ::P,w ::vs,0,m,nd,h1,h2,hk=>by
   simp at h1 h2;subst h1;subst h2
   show bindC kindOf ((p,w) ::P.zip vs) m p=_
   unfold bindC
   rw[pH fun v hv=>(List.nodup_cons.mp nd).1 (List.of_mem_zip hv).1,if_neg hk]
   simp
 | p ::P,w ::vs,i+1,m,nd,h1,h2,hk=>by
   show bindC kindOf ((p,w) ::P.zip vs) m x=_
   unfold bindC
   exact p6 (i:=i) (List.nodup_cons.mp nd).2 (by simpa using h1) (by simpa using h2) hk
noncomputable def start(N:List Str)(vs:List V):St:=vs.map some++List.replicate (N.length - vs.length) none
noncomputable def nu(CX:xC)(P:Program)(w:World)(K:PySem.W.Frag)(mg:Str→Option Value)(base:Heap)(N:List Str)(qual:Str)(scope:Scope)(f:Addr)(cd:Value)(A:Around)(outer:List Env)(s:Shared)(H:Hp)(E:XK):Cx where
 prog:=P
 w:=w
 K:=K
 mg:=mg
 base:=base
 A:=A.deeper (envOfC qual scope s.heap.objs.size f cd)
 N:=N
 s₀:=s
 H₀:=H
 env:=envOfC qual scope s.heap.objs.size f cd
 outer:=outer
 stack:=envOfC qual scope s.heap.objs.size f cd ::outer
 ex:=[]
 calm:=true
 fn:=fun _=>true
 pn:=[]
 xe:=fun e s'=>wpAny (model P w) (A.deeper (envOfC qual scope s.heap.objs.size f cd)) (leaving (envOfC qual scope s.heap.objs.size f cd) e) (fun _ s''=>CX outer H s E e s'') (fun e' s''=>CX outer H s E e' s'') s'
theorem sS{sc:Scope}{n:Nat}{x:Str}(h:sc.names.lookup x=some .cell):∃c,(cellsFrom n sc.names []).lookup x=some c:=by
 have q:=PySem.W.cellsFrom_some sc.names n [] (.inl h)
 exact Option.isSome_iff_exists.mp q
theorem wu{CX:xC}{P:Program}{w:World}{K:PySem.W.Frag}{mg:Str→Option Value}{base:Heap}{N ps:List Str}{qual:Str}{scope:Scope}{f:Addr}{cd:Value}{A:Around}{outer:List Env}{s s1:Shared}{H:Hp}{E:XK}{us:List Value}{vs:List V}
 (S:aX N ps scope) (hd:A.handled=none) (e0:ui P w K mg base A outer s H) (hl:vs.length=ps.length) (r:Vals vs us)
 (x:InCallC s s.heap.objs.size (bindL (envOfC qual scope s.heap.objs.size f cd).kindOf (ps.zip us) fun _=>none) (cellsFrom (s.heap.objs.size+1) scope.names []) (bindC (envOfC qual scope s.heap.objs.size f cd).kindOf (ps.zip us) fun _=>none) s1) :
 Inv (nu CX P w K mg base N qual scope f cd A outer s H E) [] (start N vs) H s1:=by
 have hpl:ps.length≤N.length:=by have:=congrArg List.length S.pre;rw [List.length_take] at this;omega
 obtain⟨h1,tk,rfl,hk⟩:=x.done
 have noA:∀b:Addr,b ∉ (nu CX P w K mg base N qual scope f cd A outer s H E).ex:=fun b z=>absurd (show b∈([]:List Addr) from z) (by simp)
 refine⟨⟨e0.mod,S.kind,rfl,rfl,Nat.le_refl _,fun y z c h1 h2=>?_,fun y hy=>?_,fun y c _ h=>?_,fun _=>hd,Around.frames_deeper e0.frames, .inr ⟨rfl,rfl⟩,fun b z=>absurd z (noA b),e0.bs,e0.bsz,fun b _ _=>noA b,fun b z=>absurd z (noA b),e0.mK,e0.frf⟩,
  rfl,e0.bare,Un.kept hk,⟨_,x.toInCall.ns,fun i y v h1 h2 h3=>?_⟩,fun y c h=>⟨_,x.cell y c h⟩,e0.hok.fresh (Nat.le_refl _),fun y c h=>?_,fun p hp=>absurd (show p∈([]:List (Addr × Obj)) from hp) (by simp),e0.hok.kept hk,?_⟩
 ·exact name_of_addr x.apart (PySem.mem_of_lookup h1) (PySem.mem_of_lookup h2)
 ·have hy:scope.names.lookup y=some .cell∨scope.names.lookup y=some .free:=hy
  rcases hy with hy | hy
  ·exact sS hy
  ·exact absurd rfl (S.nofree _ (PySem.mem_of_lookup hy))
 ·exact Nat.le_of_lt (x.above y c (PySem.mem_of_lookup h))
 ·have hi:i < vs.length:=by
   unfold start at h2
   by_cases hi:i < vs.length
   ·exact hi
   ·rw[List.getElem?_append_right (by simpa using hi)] at h2
    rw[List.getElem?_replicate] at h2
    split at h2 <;> cases h2
  have ha:vs[i]? =some v:=by
   unfold start at h2
   rw[List.getElem?_append_left (by simpa using hi),List.getElem?_map] at h2
   cases e:vs[i]? with
   | none=>rw [e] at h2;cases h2
   | some a=>rw [e] at h2;cases h2;rfl
  obtain⟨u,hu,rv⟩:=r.get ha
  have hp:ps[i]? =some y:=by
   rw[←S.pre,List.getElem?_take_of_lt (by omega)];exact h1
  have ndP:ps.Nodup:=by rw[←S.pre];exact S.nd.sublist (List.take_sublist _ _)
  refine⟨u,rv,?_⟩
  rcases S.par y (List.mem_of_getElem? hp) with k | k
  ·exact .inl ⟨k,pK ndP hp hu k⟩
  ·obtain⟨c,e⟩:=sS (n:=s.heap.objs.size+1) k
   refine .inr ⟨.inl k,c,e,?_⟩
   have q:=x.cell y c e
   rw[p6 ndP hp hu (by show scope.names.lookup y≠_;rw [k];decide)] at q
   exact q
 ·exact e0.hok.fresh (Nat.le_of_lt (x.above y c (PySem.mem_of_lookup h)))
 ·unfold start
  show _=N.length
  rw[List.length_append,List.length_map,List.length_replicate]
  omega
theorem Fw{CX:xC}{P:Program}{w:World}{K:PySem.W.Frag}{mg:Str→Option Value}{base:Heap}{k:Nat}{f:Addr}{name qual:Str}{params:Arguments}{body:List Stmt}{scope:Scope}{dV kV doc pm cdv ct oc:Value}{an od:Option Addr}
 {osl:Array (Option Value)} {N ps:List Str} {sp:Sp} (lk:K.lookup f=some ⟨oc,od, .func (PySem.W.fnOf name qual params body scope dV kV doc pm an cdv ct),osl⟩) (hcd:PySem.W.codeIn K cdv qual=true) (S:aX N ps scope)
 (len:∀vs H Q E,sp vs H Q E→vs.length=ps.length)
 (hbody:∀(A:Around) (outer:List Env) (s:Shared) (H:Hp) (vs:List V) (Q:VK) (E:XK),dG k (A.deeper (envOfC qual scope s.heap.objs.size f cdv))→sp vs H Q E→
   ∃t,qS (nu CX P w K mg base N qual scope f cdv A outer s H E) body t∧t {nx:=fun _ H'=>Q .cD H',rt:=Q} (start N vs) H) :
 gC P w K mg base CX (k+1) f (PySem.W.fnOf name qual params body scope dV kV doc pm an cdv ct) ps sp:=by
 refine⟨len,fun A outer s H args us vs Q E hr e0 hb r hsp=>?_⟩
 have hl:=len _ _ _ _ hsp
 have KX:K.In s.heap:=e0.mod.kin.keeps fun b o e=>(e0.bs b o e).1
 have lim:s.heap.NoLimit:=e0.mod.nolimit.keeps fun b o e=>(e0.bs b o e).1
 have hkind:∀y∈ps.zip us,scope.names.lookup y.1=some .local∨(scope.names.lookup y.1=some .cell∧((cellsFrom (s.heap.objs.size+1) scope.names []).lookup y.1).isSome=true):=fun⟨n,v⟩ hy=>by
  rcases S.par n (List.of_mem_zip hy).1 with q | q
  ·exact .inl q
  ·exact .inr ⟨q,PySem.W.cellsFrom_some _ _ _ (.inl q)⟩
 refine codeAny_call_function hr.depth (KX _ _ lk) rfl S.co S.gen rfl (PySem.W.codeRec_of KX hcd) (hb _ _ _ _ ?_)
 refine wpAny_newFunctionEnv_cells S.kind hkind fun env he s1 x=>?_
 subst he
 refine⟨lim.keeps x.toInCall.keep,codeAny_func ?_⟩
 obtain⟨t,ht,hq⟩:=hbody A outer s H vs Q E (hr.deeper _) hsp
 have I:Inv (nu CX P w K mg base N qual scope f cdv A outer s H E) [] (start N vs) H s1:=wu S hr.hd e0 hl r x
 refine wpAny_mono (ht [] s1 (start N vs) H _ I hq) (fun fl s' hs=>?_) fun e s' hs=>hs
 have fin:∀{σ':St} {H':Hp} {v:V} {u:Value},Inv (nu CX P w K mg base N qual scope f cdv A outer s H E) [] σ' H' s'→RelV v u→Q v H'→CE outer P w H s Q u s':=
  fun {σ' H' v u} J rv q=>⟨v,H',J.os,J.bare,J.base,J.hok,rv,q⟩
 cases fl with
 | ret u=>
   obtain⟨v,σ',H',J,rv,q⟩:=hs
   exact fin J rv q
 | next=>
   obtain⟨σ',H',J,q⟩:=hs
   exact fin (v:=V.cD) (u:=Value.none) J rfl q
 | brk=>
   obtain⟨_,_,_,q⟩:=hs
   exact False.elim q
 | cont=>
   obtain⟨_,_,_,q⟩:=hs
   exact False.elim q
end L2
namespace L2
open PySem PySem.Spec PyProof.Rows
section
variable {X:Cx} {x:Str} {p pos:Pos} {e:Expr} {es:List Expr} {t:TA} {id T:String} {r:List V→Hp→VK→Prop}
noncomputable def Hh(r:List V→Hp→VK→Prop)(t:TA):TE:=fun σ H Q=>t σ H fun vs H1=>r vs H1 Q
theorem nO(hc:jq X (.builtin id) r)(hg:Gl X x)(hm:X.mg x=none)(hv:bootBuiltins x=some (.builtin id))(ha:PA X (e ::es) t)(hn:x≠"__name__":=by decide)(hdb:(x==("__debug__":Str))=false:=by decide)
 (he:starEach (e ::es) X.env=(false,eval e X.env) ::starEach es X.env:=by rfl) (hpl:(backTo pos (starEach es X.env)).any (·.1)=false:=by rfl):PE X (.Call (.Name x p) (e ::es) [] pos) (Hh r t):=by
 intro pins s σ H Q I h
 refine wpAny_Call_Name_kw (jy I hg hm hv ?_ hn hdb)
 exact PyProof.Rows.callWith_builtin1 (dg (ha pos pins s σ H _ I h) fun us s1 ⟨vs,H1,I1,r1,q1⟩=>hc pins s1 σ H1 vs us Q I1 r1 q1) he hpl
theorem wR(hc:jq X (.type T) r)(hg:Gl X x)(hm:X.mg x=none)(hv:bootBuiltins x=some (.type T))(ha:PA X (e ::es) t)(hn:x≠"__name__":=by decide)(hdb:(x==("__debug__":Str))=false:=by decide)
 (he:starEach (e ::es) X.env=(false,eval e X.env) ::starEach es X.env:=by rfl) (hpl:(backTo pos (starEach es X.env)).any (·.1)=false:=by rfl):PE X (.Call (.Name x p) (e ::es) [] pos) (Hh r t):=by
 intro pins s σ H Q I h
 refine wpAny_Call_Name_kw (jy I hg hm hv ?_ hn hdb)
 exact PyProof.Rows.callWith_type1 (dg (ha pos pins s σ H _ I h) fun us s1 ⟨vs,H1,I1,r1,q1⟩=>hc pins s1 σ H1 vs us Q I1 r1 q1) he hpl
end
end L2
namespace L2
open PySem PySem.Spec PyProof.Rows
section
variable {κ:Type} [DecidableEq κ]
noncomputable def jG(kvs:List (κ × V))(k:κ):Option V:=(kvs.find? fun kv=>decide (kv.1=k)).map (·.2)
noncomputable def putK(kvs:List (κ × V))(k:κ)(v:V):List (κ × V):=
 if(kvs.any fun kv=>decide (kv.1=k))=true then kvs.map (fun kv=>if kv.1=k then(kv.1,v) else kv) else kvs++[(k,v)]
noncomputable def yR(kvs:List (κ × V))(k:κ):List (κ × V):=kvs.filter fun kv=>decide (kv.1≠k)
theorem rh{p:κ × V}{r:List (κ × V)}{k:κ}(e:p.1=k):jG (p ::r) k=some p.2:=by simp [jG,List.find?_cons,e]
theorem rW{p:κ × V}{r:List (κ × V)}{k:κ}(e:¬p.1=k):jG (p ::r) k=jG r k:=by simp [jG,List.find?_cons,e]
theorem sT(kvs:List (κ × V))(k:κ)(v:V):(putK kvs k v).length≤kvs.length+1:=by
 unfold putK
 split
 ·rw[List.length_map];omega
 ·rw[List.length_append,List.length_cons,List.length_nil];omega
theorem lj.getD{o:Option V}{u:Option Value}{d:V}{d':Value}(r:lj o u)(rd:RelV d d'):RelV (o.getD d) (u.getD d'):=by
 cases o with
 | none=>cases u with
   | none=>exact rd
   | some _=>exact(show False from r).elim
 | some _=>cases u with
   | none=>exact(show False from r).elim
   | some _=>exact r
theorem KV.val{kvs:List (κ × V)}{vs:List (κ × Value)}(r:KV kvs vs)(k:κ):lj (jG kvs k) (valueAt vs k):=by
 unfold KV at r
 induction r with
 | nil=>exact True.intro
 | @cons p q ps qs h t ih=>
   obtain⟨h1,h2⟩:=h
   by_cases e:p.1=k
   ·have e':q.1=k:=h1.symm.trans e
    have b:valueAt (q ::qs) k=some q.2:=by simp [valueAt,List.find?_cons,e']
    rw[rh e,b];exact h2
   ·have e':¬q.1=k:=fun z=>e (h1.trans z)
    have b:valueAt (q ::qs) k=valueAt qs k:=by simp [valueAt,List.find?_cons,e']
    rw[rW e,b];exact ih
theorem KV.any{kvs:List (κ × V)}{vs:List (κ × Value)}(r:KV kvs vs)(k:κ):(kvs.any fun kv=>decide (kv.1=k))=vs.any fun kv=>decide (kv.1=k):=by
 unfold KV at r
 induction r with
 | nil=>rfl
 | cons h t ih=>rw [List.any_cons,List.any_cons,ih,h.1]
theorem KV.GY{kvs:List (κ × V)}{vs:List (κ × Value)}(r:KV kvs vs)(k:κ){y:V}{u:Value}(ry:RelV y u) :
 KV (kvs.map fun kv=>if kv.1=k then(kv.1,y) else kv) (vs.map fun kv=>if kv.1=k then(kv.1,u) else kv):=by
 unfold KV at r ⊢
 induction r with
 | nil=>exact .nil
 | @cons p q ps qs h t ih=>
   rw[List.map_cons,List.map_cons]
   refine .cons ?_ ih
   obtain⟨h1,h2⟩:=h
   by_cases e:p.1=k
   ·rw[if_pos e,if_pos (h1.symm.trans e)];exact⟨h1,ry⟩
   ·rw[if_neg e,if_neg (fun z=>e (h1.trans z))];exact⟨h1,h2⟩
theorem KV.put{kvs:List (κ × V)}{vs:List (κ × Value)}(r:KV kvs vs)(k:κ){y:V}{u:Value}(ry:RelV y u):KV (putK kvs k y) (stored vs k u):=by
 unfold putK stored
 rw[r.any k]
 by_cases e:(vs.any fun kv=>decide (kv.1=k))=true
 ·rw[if_pos e,if_pos e];exact r.GY k ry
 ·rw[if_neg e,if_neg e];exact Paired.snoc r ⟨rfl,ry⟩
end
theorem xo{P:Program}{w:World}{k:Key}{u:Value}(r:RelV (kV k) u):(cV P w).is k u=true:=by
 cases k with
 | inl i=>obtain⟨t,e⟩:=(show ∃t,u=Value.int i t from r);subst e;exact rf P w i t
 | inr x=>obtain⟨t,e⟩:=(show ∃t,u=Value.str x t from r);subst e;exact rj P w x t
theorem pk{P:Program}{w:World}:∀{ks:List Key} {us:List Value},Vals (ks.map kV) us→ItemsAre (cV P w) ks us
 | [],_,r=>by rw[List.map_nil] at r;cases r;exact .nil
 | k ::ks,_,r=>by
   rw[List.map_cons] at r
   cases r with
   | cons h t=>exact .cons (xo h) (pk t)
noncomputable abbrev KT(H:Hp):List (List Key × V)→List (List Key × Addr × Value)→Prop:=Paired fun p q=>p.1=q.1∧H q.2.1=some (.tup (p.1.map kV))∧RelV p.2 q.2.2
theorem KT.val{H:Hp}{kvs:List (List Key × V)}{xs:List (List Key × Addr × Value)}(r:KT H kvs xs)(k:List Key):lj (jG kvs k) ((atKey xs k).map (·.2)):=by
 induction r with
 | nil=>exact True.intro
 | @cons p q ps qs h t ih=>
   obtain⟨h1,_,h2⟩:=h
   by_cases e:p.1=k
   ·have e':q.1=k:=h1.symm.trans e
    have b:atKey (q ::qs) k=some q.2:=by simp [atKey,List.find?_cons,e']
    rw[rh e,b];exact h2
   ·have e':¬q.1=k:=fun z=>e (h1.trans z)
    have b:atKey (q ::qs) k=atKey qs k:=by simp [atKey,List.find?_cons,e']
    rw[rW e,b];exact ih
section
variable {P:Program} {w:World} {H:Hp} {h:Heap} {a:Addr}
theorem BV{u:HO}(ok:ky P w H h)(e:Rd H a u):dj P w H h a u:=e.ok ok
theorem x3{kvs:List (Key × V)}(ok:ky P w H h)(e:Rd H a (.dK kvs)):kvs.length≤sizeLine∧(a==sysModules)=false∧∃vs,KV kvs vs∧h.DictOf (cV P w) a vs:=
 show dj P w H h a (.dK kvs) from BV ok e
theorem ER{kvs:List (Key × V)}(ok:ky P w H h)(e:H a=some (.dK kvs)):kvs.length≤sizeLine∧(a==sysModules)=false∧∃vs,KV kvs vs∧h.DictOf (cV P w) a vs:=x3 ok (.inl e)
theorem xx{ks:List Key}(ok:ky P w H h)(e:H a=some (.tup (ks.map kV))):(tupleKind (cV P w)).is h ks a:=by
 obtain⟨_,its,r,o,h1,h2,n,h3⟩:=(show dj P w H h a (.tup (ks.map kV)) from ok a _ e)
 exact⟨o,its.toArray,n,h1,h2,h3,by simpa using pk r⟩
theorem BZ{kvs:List (List Key × V)}(ok:ky P w H h)(e:Rd H a (.dT kvs)):kvs.length≤sizeLine∧(a==sysModules)=false∧
 ∃xs,KT H kvs xs∧h.DictOfH (tupleKind (cV P w)) a xs:=by
 obtain⟨z,y,xs,r,o,es,ep,h1,h2,h3,h4,h5⟩:=(show dj P w H h a (.dT kvs) from BV ok e)
 refine⟨z,y,xs,r,o,es,ep,h1,h2,h3,h4,fun x hx=>?_,h5⟩
 have all:∀{l:List (List Key × V)} {m:List (List Key × Addr × Value)},KT H l m→∀x∈m,(tupleKind (cV P w)).is h x.1 x.2.1:=by
  intro l m q
  induction q with
  | nil=>intro x hx;exact nomatch hx
  | @cons p q ps qs hq t ih=>
    intro x hx
    rcases List.mem_cons.mp hx with e | hx
    ·subst e
     exact xx ok (by rw[←hq.1];exact hq.2.1)
    ·exact ih x hx
 exact all r x hx
end
noncomputable def oJ(H:Hp)(a:Addr)(y:V)(r:Option V):Prop:=
 (∃kvs k,Rd H a (.dK kvs)∧y=kV k∧r=jG kvs k)∨∃kvs k b,Rd H a (.dT kvs)∧y= .ref b∧H b=some (.tup (k.map kV))∧r=jG kvs k
noncomputable def Fd(H:Hp)(a:Addr)(y v:V)(H':Hp):Prop:=
 (∃kvs k,H a=some (.dK kvs)∧y=kV k∧kvs.length < sizeLine∧H'=upd H a (.dK (putK kvs k v)))∨
 ∃kvs k b,H a=some (.dT kvs)∧y= .ref b∧H b=some (.tup (k.map kV))∧kvs.length < sizeLine∧H'=upd H a (.dT (putK kvs k v))
theorem oJ.k{H:Hp}{a:Addr}{kvs:List (Key × V)}{k:Key}(e:H a=some (.dK kvs)):oJ H a (kV k) (jG kvs k):= .inl ⟨kvs,k, .inl e,rfl,rfl⟩
section
variable {X:Cx} {pins:List (Addr × Obj)} {σ:St} {H:Hp} {s:Shared} {a:Addr} {y v:V} {u r:Value} {o:Option V} {A:Around} {E:Value→Shared→Prop}
theorem Inv.big(I:Inv X pins σ H s):sysModules < s.heap.objs.size:=by
 have h:mainGlobals < s.heap.objs.size:=(I.mod.glob.keeps I.bk).lt
 exact Nat.lt_trans (by decide) h
theorem Ay{h':Heap}{t':Nat}{ob:HO}(I:Inv X pins σ H s)(mu:EJ (H a))(hs:Heap.SameBut a s.heap h')(he:∃q,h'.get? a=some q)(new:dj X.prog X.w (upd H a ob) h' a ob) :
 Inv X pins σ (upd H a ob) {s with heap:=h',toks:=t'}:=
 I.write (x:=a) (e:=a) mu (.inl rfl) (fun b q hb z=>(hs.2 b hb).trans z) he new
theorem Dc{P:Program}{w:World}{H':Hp}{h':Heap}{kvs:List (Key × V)}{vs:List (Key × Value)}(z:kvs.length≤sizeLine)(hd:(a==sysModules)=false)(rel:KV kvs vs)(dd:h'.DictOf (cV P w) a vs) :
 dj P w H' h' a (.dK kvs):=⟨z,hd,vs,rel,dd⟩
end
section
variable {X:Cx} {pins:List (Addr × Obj)} {σ:St} {H:Hp} {s:Shared} {a:Addr} {kvs:List (Key × V)} {k:Key} {u:Value} {A:Around} {E:Value→Shared→Prop}
end
noncomputable def Ie(i:Expr):Prop:=∀ov iv,subscripted i false ov iv=operate [ov,iv] (getItem ov iv)
noncomputable def HK(td ty:TE):TE:=fun σ H Q=>td σ H fun x H1=>ty σ H1 fun y H2=>∃a v,x= .ref a∧oJ H2 a y (some v)∧Q v H2
noncomputable def IC(ty td:TE):TE:=fun σ H Q=>ty σ H fun y H1=>td σ H1 fun x H2=>∃a o,x= .ref a∧oJ H2 a y o∧Q (.bl o.isSome) H2
noncomputable def FY(ty td:TE):TE:=fun σ H Q=>ty σ H fun y H1=>td σ H1 fun x H2=>∃a o,x= .ref a∧oJ H2 a y o∧Q (.bl (!o.isSome)) H2
noncomputable def HH(td ty tv:TE):TS:=fun D σ H=>tv σ H fun v H1=>td σ H1 fun x H2=>ty σ H2 fun y H3=>∃a H4,x= .ref a∧Fd H3 a y v H4∧D.nx σ H4
noncomputable def Hk(td ty tv:TE)(rd:V→V→Hp→VK→Prop):TS:=fun D σ H=>td σ H fun x H1=>ty σ H1 fun y H2=>∃a v,x= .ref a∧oJ H2 a y (some v)∧
 tv σ H2 fun y2 H3=>rd v y2 H3 fun z H4=>∃H5,Fd H4 a y z H5∧D.nx σ H5
noncomputable def Hj(td ty:TE):TS:=fun D σ H=>td σ H fun x H1=>ty σ H1 fun y H2=>∃a kvs k,x= .ref a∧H2 a=some (.dK kvs)∧y=kV k∧(jG kvs k).isSome=true∧D.nx σ (upd H2 a (.dK (yR kvs k)))
section
variable {X:Cx} {o i e value:Expr} {pos pos' tpos:Pos} {td ty tv:TE}
end
theorem zp{P:Program}{w:World}{H:Hp}(h:Heap)(hb:sysModules < h.objs.size):dj P w H (h.push {cls:= .type "dict",data:= .dict #[]}) h.objs.size (.dK []):=
 ⟨Nat.zero_le _,beq_eq_false_iff_ne.mpr (Ne.symm (Nat.ne_of_lt hb)),[], .nil,Heap.DictOf.new h⟩
noncomputable def GK:TE:=fun _ H Q=>∀p,H p=none→Q (.ref p) (upd H p (.dK []))
noncomputable def Gk:TE:=fun _ H Q=>∀p,H p=none→Q (.ref p) (upd H p (.dT []))
section
variable {X:Cx} {pos:Pos}
end
noncomputable def m_:List (TE × TE)→St→Hp→(List (V × V)→Hp→Prop)→Prop
 | [],_,H,Q=>Q [] H
 | (tk,tv) ::r,σ,H,Q=>tk σ H fun x H1=>tv σ H1 fun y H2=>m_ r σ H2 fun ps H3=>Q ((x,y) ::ps) H3
noncomputable abbrev VV:List (V × V)→List (Value × Value)→Prop:=Paired fun p q=>RelV p.1 q.1∧RelV p.2 q.2
noncomputable def Ei(X:Cx)(pos:Pos)(keys:List (Option Expr))(values:List Expr)(trs:List (TE × TE)):Prop:=
 ∀(pins:List (Addr × Obj)) (s:Shared) (σ:St) (H:Hp) (Q:List (V × V)→Hp→Prop),Inv X pins σ H s→m_ trs σ H Q→
  wpAny (model X.prog X.w) X.A (evalPairs (pairTrees keys values X.env pos)) (fun vs s'=>∃ps H',Inv X pins σ H' s'∧VV ps vs∧Q ps H') X.xe s
theorem uS{X:Cx}{pos:Pos}:Ei X pos [] [] []:=fun pins s σ H Q I h=>pairTrees_nil_walk ⟨[],H,I, .nil,h⟩
theorem k5{X:Cx}{pos:Pos}{k v:Expr}{ks:List (Option Expr)}{vs:List Expr}{tk tv:TE}{trs:List (TE × TE)}(hk:PE X k tk)(hv:PE X v tv)(hr:Ei X pos ks vs trs) :
 Ei X pos (some k ::ks) (v ::vs) ((tk,tv) ::trs):=fun pins s σ H Q I h=>
 pairTrees_cons_walk (dg (hk pins s σ H _ I h) fun u s1 ⟨x,H1,I1,rx,q1⟩=>dg (hv pins s1 σ H1 _ I1 q1) fun w2 s2 ⟨y,H2,I2,ry,q2⟩=>
  dg (hr pins s2 σ H2 _ I2 q2) fun ws s3 ⟨ps,H3,I3,rel,q3⟩=>⟨(x,y) ::ps,H3,I3, .cons ⟨rx,ry⟩ rel,q3⟩)
noncomputable def hV(kvs more:List (Key × V)):List (Key × V):=more.foldl (fun acc kv=>putK acc kv.1 kv.2) kvs
theorem KV.merge:∀{more:List (Key × V)} {rs:List (Key × Value)} {kvs:List (Key × V)} {vs:List (Key × Value)},KV more rs→KV kvs vs→KV (hV kvs more) (merged vs rs):=by
 intro more rs kvs vs r
 unfold KV at r
 induction r generalizing kvs vs with
 | nil=>intro q;exact q
 | @cons p q ps qs h t ih=>
   intro r0
   have e:KV (putK kvs p.1 p.2) (stored vs q.1 q.2):=by
    have:=r0.put p.1 h.2
    rw[←h.1];exact this
   exact ih e
theorem j7:∀(more kvs:List (Key × V)),(hV kvs more).length≤kvs.length+more.length
 | [],kvs=>by show kvs.length≤kvs.length+0;omega
 | p ::r,kvs=>by
   have h1:=j7 r (putK kvs p.1 p.2)
   have h2:=sT kvs p.1 p.2
   show(hV (putK kvs p.1 p.2) r).length≤_
   rw[List.length_cons];omega
theorem oh{P:Program}{w:World}:∀{kvs:List (Key × V)} {ws:List (Value × Value)},VV (kvs.map fun kv=>(kV kv.1,kv.2)) ws→∃rs,Carries (cV P w) ws rs∧KV kvs rs
 | [],_,r=>by rw[List.map_nil] at r;cases r;exact⟨[],True.intro, .nil⟩
 | p ::kvs,_,r=>by
   rw[List.map_cons] at r
   cases r with
   | @cons a b as bs h t=>
     obtain⟨rs,c,q⟩:=oh (P:=P) (w:=w) t
     obtain⟨b1,b2⟩:=b
     exact⟨(p.1,b2) ::rs,⟨xo h.1,rfl,c⟩, .cons ⟨rfl,h.2⟩ q⟩
noncomputable def zB(trs:List (TE × TE)):TE:=fun σ H Q=>∀p,H p=none→m_ trs σ (upd H p (.dK [])) fun ps H2=>H2 p=some (.dK [])∧∃kvs:List (Key × V),ps=kvs.map (fun kv=>(kV kv.1,kv.2))∧kvs.length≤15∧Q (.ref p) (upd H2 p (.dK (hV [] kvs)))
theorem Bi{X:Cx}{pos:Pos}{keys:List (Option Expr)}{values:List Expr}{trs:List (TE × TE)}(h:Ei X pos keys values trs)(hall:keys.all (·.isSome)=true)(hl:keys.length=values.length)(h0:keys≠[])
 (h15:keys.length≤15):PE X (.Dict keys values pos) (zB trs):=by
 intro pins s σ H Q I q
 have hn:=I.hok.fresh (Nat.le_refl s.heap.objs.size)
 have I1:=I.laid (a:=s.heap.objs.size) (o:= .dK []) (h':=s.heap.push {cls:= .type "dict",data:= .dict #[]}) (t':=s.toks) (fun _ _ q=>Heap.get?_push_of_some _ q) (Nat.le_refl _) (zp s.heap I.big)
 refine wpAny_Dict_walk (knd:=cV X.prog X.w) hall hl h0 h15 (dg (h pins _ σ _ _ I1 (q _ hn)) fun ws s2 ⟨ps,H2,I2,rel,e,kvs,ep,lk,q2⟩=>?_)
 subst ep
 obtain⟨rs,c,rk⟩:=oh (P:=X.prog) (w:=X.w) rel
 obtain⟨z,hd,vs0,r0,dd⟩:=ER I2.hok e
 cases r0
 refine⟨rs,c,dd,fun h' dd' hs=>⟨.ref s.heap.objs.size,_,?_,rfl,q2⟩⟩
 have hz:(hV [] kvs).length≤sizeLine:=by
  have h1:=j7 kvs []
  rw[List.length_nil] at h1
  rw[sizeLine_eq];omega
 have he:∃q,h'.get? s.heap.objs.size=some q:=let⟨q,_,_,hq,_⟩:=dd';⟨q,hq⟩
 exact Ay I2 (by rw[e];exact True.intro) hs he (Dc hz hd (rk.merge .nil) dd')
structure M1 (X:Cx) (o:Expr) (m:Str) (apos:Pos) (e:Expr) (cpos:Pos):Prop where
 base:attributeBase o m X.env (eval o X.env)=eval o X.env
 few:((backTo cpos (starEach [e] X.env)).all (fun x=>!x.1) && (backToKw cpos (keywordEach [] X.env)).all (fun x=>x.1.isSome)
  && decide (([e]:List Expr).length+([]:List Keyword).length+(if([]:List Keyword).isEmpty then 0 else 1) < 30))=true
 line:(apos.endLine==cpos.line)=true
 trees:backTo cpos (starEach [e] X.env)=[(false,eval e X.env)]
structure M2 (X:Cx) (o:Expr) (m:Str) (apos:Pos) (e f:Expr) (cpos:Pos):Prop where
 base:attributeBase o m X.env (eval o X.env)=eval o X.env
 few:((backTo cpos (starEach [e,f] X.env)).all (fun x=>!x.1) && (backToKw cpos (keywordEach [] X.env)).all (fun x=>x.1.isSome)
  && decide (([e,f]:List Expr).length+([]:List Keyword).length+(if([]:List Keyword).isEmpty then 0 else 1) < 30))=true
 line:(apos.endLine==cpos.line)=true
 trees:backTo cpos (starEach [e,f] X.env)=[(false,eval e X.env),(false,eval f X.env)]
noncomputable def Fx(H:Hp)(a:Addr):Prop:=(∃kvs,Rd H a (.dK kvs))∨∃kvs,Rd H a (.dT kvs)
theorem D1{X:Cx}{pins:List (Addr × Obj)}{σ:St}{H:Hp}{s:Shared}{a:Addr}(I:Inv X pins σ H s)(d:Fx H a) :
 s.TypeIs (.ref a) "dict"∧(∀b,Value.ref a= .ref b→∃ob,s.heap.get? b=some ob∧ob.dict=none)∧(a==sysModules)=false:=by
 rcases d with⟨kvs,e⟩ | ⟨kvs,e⟩
 ·obtain⟨_,hd,vs,_,dd⟩:=x3 I.hok e
  refine⟨dd.typeIs,fun b q=>?_,hd⟩
  cases q
  obtain⟨ob,_,_,h1,h2,_⟩:=dd
  exact⟨ob,h1,h2.2.1⟩
 ·obtain⟨_,hd,xs,_,dd⟩:=BZ I.hok e
  refine⟨dd.typeIs,fun b q=>?_,hd⟩
  cases q
  obtain⟨ob,_,_,h1,h2,_⟩:=dd
  exact⟨ob,h1,h2.2.1⟩
section
variable {X:Cx} {pins:List (Addr × Obj)} {σ:St} {H:Hp} {s:Shared} {a:Addr} {y d:V} {u r:Value} {o:Option V} {A:Around} {E:Value→Shared→Prop}
theorem DV{Q:Value→Shared→Prop}(hu:A.units+1 < cLine)(I:Inv X pins σ H s)(g:oJ H a y o)(ry:RelV y u)(rd:RelV d r)(h:∀w' s',Inv X pins σ H s'→RelV (o.getD d) w'→Q w' s') :
 wpAny (model X.prog X.w) A (call (.builtin "dict.get") [.ref a,u,r]) Q E s:=by
 rcases g with⟨kvs,k,e,ey,l⟩ | ⟨kvs,k,b,e,ey,eb,l⟩
 ·subst ey
  obtain⟨z,hd,vs,rel,dd⟩:=x3 I.hok e
  refine call_meetsIn PySem.F.slot_dict_get dd.typeIs PySem.F.entry_dict_get (PySem.F.args_dict_get_3 _ _ _) (meets_dict_get_default (cV X.prog X.w) a (xo ry) hd r) ⟨_,dd.mapOf,h _ _ (I.tok _) ?_⟩
  rw[l]
  exact(rel.val k).getD rd
 ·subst ey
  cases(show u=Value.ref b from ry)
  obtain⟨z,hd,xs,rel,dd⟩:=BZ I.hok e
  refine call_meetsIn PySem.F.slot_dict_get dd.typeIs PySem.F.entry_dict_get (PySem.F.args_dict_get_3 _ _ _) (meetsH_dict_get_default (tupleKind (cV X.prog X.w)) a b hd r) ⟨tupleKind_room_in1 hu,k,xs,xx I.hok eb,dd,h _ _ (I.tok _) ?_⟩
  rw[l]
  exact(rel.val k).getD rd
end
noncomputable def GR(td ty:TE):TE:=fun σ H Q=>td σ H fun x H1=>∃a,x= .ref a∧Fx H1 a∧ty σ H1 fun y H2=>∃o,oJ H2 a y o∧Q (o.getD .cD) H2
noncomputable def C7(td ty tx:TE):TE:=fun σ H Q=>td σ H fun x H1=>∃a,x= .ref a∧Fx H1 a∧ty σ H1 fun y H2=>tx σ H2 fun z H3=>∃o,oJ H3 a y o∧Q (o.getD z) H3
noncomputable def GS(td ty:TE):TE:=fun σ H Q=>td σ H fun x H1=>∃a,x= .ref a∧Fx H1 a∧ty σ H1 fun y H2=>∃kvs k v,H2 a=some (.dK kvs)∧y=kV k∧jG kvs k=some v∧Q v (upd H2 a (.dK (yR kvs k)))
noncomputable def Gi(td ty tx:TE):TE:=fun σ H Q=>td σ H fun x H1=>∃a,x= .ref a∧Fx H1 a∧ty σ H1 fun y H2=>tx σ H2 fun z H3=>∃kvs k,H3 a=some (.dK kvs)∧y=kV k∧
 (∀v,jG kvs k=some v→Q v (upd H3 a (.dK (yR kvs k))))∧(jG kvs k=none→Q z H3)
section
variable {X:Cx} {o e f:Expr} {apos cpos:Pos} {td ty tx:TE}
theorem zo(hu:X.A.units+1 < cLine)(ho:PE X o td)(he:PE X e ty)(hf:PE X f tx)(m:M2 X o "get" apos e f cpos):PE X (.Call (.Attribute o "get" apos) [e,f] [] cpos) (C7 td ty tx):=by
 intro pins s σ H Q I h
 refine wpAny_Call_method m.base m.few m.line PySem.F.plainAttrs_dict PySem.F.slot_dict_get PySem.F.type_dict_get (dg (ho pins s σ H _ I h) fun u s1 ⟨x,H1,I1,rx,a,ex,d,q1⟩=>?_)
 subst ex
 obtain rfl:u=Value.ref a:=rx
 obtain⟨t1,t2,_⟩:=D1 I1 d
 refine⟨t1,t2,?_⟩
 rw[m.trees]
 refine Calls.callWith_builtin rfl (Calls.evalArgs_plain (Calls.spliced_cons (dg (he pins s1 σ H1 _ I1 q1) fun iv s2 ⟨y,H2,I2,ry,q2⟩=>
  Calls.spliced_cons (dg (hf pins s2 σ H2 _ I2 q2) fun fv s3 ⟨z,H3,I3,rz,ov,g,q3⟩=>Calls.spliced_nil ?_))))
 exact DV hu I3 g ry rz fun w' s4 I4 rw'=>⟨_,H3,I4,rw',q3⟩
end
section
variable {X:Cx} {pins:List (Addr × Obj)} {σ:St} {H:Hp} {s:Shared} {a:Addr} {kvs:List (Key × V)} {A:Around} {E:Value→Shared→Prop}
end
section
variable {X:Cx} {pins:List (Addr × Obj)} {σ:St} {H:Hp} {s:Shared} {a:Addr} {y:V} {u:Value} {A:Around} {E:Value→Shared→Prop}
end
end L2
namespace HT
open PySem PyProof.Rows
noncomputable def lexLt:List Int→List Int→Bool
 | [],[]=>false
 | [],_ ::_=>true
 | _ ::_,[]=>false
 | x ::xs,y ::ys=>if x=y then lexLt xs ys else decide (x < y)
section
open PySem.SeqAt
open PySem.AutoSeq1 (wpAny_loadPart')
open PySem.MeetsSeq PySem.MeetsSeq2 PySem.MeetsSeq3
end
section
variable {prog:Program} {w:World} {A:Around} {E:Value→Shared→Prop} {s:Shared}
theorem AN{t b:Addr}{vs ws:List Value}{Q:Value→Shared→Prop}(ht:IsTup s.heap t vs.toArray)(hb:IsTup s.heap b ws.toArray)(hv:vs≠[])
 (h1:ws=[]→Q (.ref t) s) (h2:ws≠[]→Q (.ref s.heap.objs.size) {s with heap:=s.heap.push {cls:= .type "tuple",data:= .seq (vs++ws).toArray}})
 (hsz:vs.length+ws.length≤sizeLine):wpAny (model prog w) A (binaryOp .Add (.ref t) (.ref b)) Q E s:=by
 obtain⟨⟨cls,dd,data,sl⟩,ho,hc,n,hd⟩:=id ht
 obtain⟨⟨cls2,dd2,data2,sl2⟩,ho2,hc2,n2,hd2⟩:=id hb
 simp only at hc hd hc2 hd2
 subst hc hd hc2 hd2
 have e:vs.toArray++ws.toArray=(vs++ws).toArray:=by simp
 by_cases hw:ws=[]
 ·exact concat_meets ⟨_,ho,rfl⟩ ⟨_,ho2,rfl⟩ noFill_tuple_add seq_tuple_add PySem.F.slot_tuple_add PySem.F.entry_tuple_add (PySem.F.args_tuple_add_2 _ _)
   (tuple_addW1 t b vs.toArray ws.toArray n n2 dd dd2 sl sl2 (by simpa using hv) (by simp [hw])) ⟨ho,ho2,h1 hw⟩
 ·refine concat_meets ⟨_,ho,rfl⟩ ⟨_,ho2,rfl⟩ noFill_tuple_add seq_tuple_add PySem.F.slot_tuple_add PySem.F.entry_tuple_add (PySem.F.args_tuple_add_2 _ _)
   (tuple_addW2 t b vs.toArray ws.toArray n n2 dd dd2 sl sl2 (by simpa using hv) (by simpa using hw) (by rw[List.size_toArray,List.size_toArray];exact hsz)) ⟨ho,ho2,?_⟩
  rw[e]
  exact h2 hw
noncomputable def oZ(n d:Nat):Option Int→Nat
 | none=>d
 | some v=>if v < 0 then(v+(n:Int)).toNat else min v.toNat n
theorem vV(n d k:Nat):oZ n d (some (k:Int))=min k n:=by
 show(if(k:Int) < 0 then((k:Int)+(n:Int)).toNat else min (k:Int).toNat n)=min k n
 rw[if_neg (by omega),Int.toNat_natCast]
end
end HT
namespace L2
open PySem PySem.Spec PyProof.Rows
noncomputable abbrev TO:=St→Hp→(Option Int→Hp→Prop)→Prop
noncomputable def PO(X:Cx)(e:Option Expr)(t:TO):Prop:=
 ∀(pins:List (Addr × Obj)) (s:Shared) (σ:St) (H:Hp) (Q:Option Int→Hp→Prop),Inv X pins σ H s→t σ H Q→
  wpAny (model X.prog X.w) X.A (evalPart e X.env) (fun u s'=>∃o H',Inv X pins σ H' s'∧IsPart u o∧Q o H') X.xe s
noncomputable def AE:TO:=fun _ H Q=>Q none H
noncomputable def Fh(t:TE):TO:=fun σ H Q=>t σ H fun x H1=>∃i,x= .int i∧Q (some i) H1
section
variable {X:Cx} {e:Expr} {te:TE} {lo hi:Option Expr} {tl th:TO} {pos p2:Pos}
theorem Bk:PO X none AE:=by
 intro pins s σ H Q I h
 rw[evalPart_none]
 exact wpAny_pure ⟨none,H,I, .none,h⟩
theorem Ak(h:PE X e te):PO X (some e) (Fh te):=by
 intro pins s σ H Q I hw
 rw[evalPart_some]
 refine dg (h pins s σ H _ I hw) fun u s1 ⟨x,H1,I1,r1,q1⟩=>?_
 obtain⟨i,rfl,q⟩:=q1
 obtain⟨t,rfl⟩:=r1
 exact⟨some i,H1,I1, .int i t,q⟩
noncomputable def Ca(X:Cx)(r:V→Option Int→Option Int→Hp→VK→Prop):Prop:=
 ∀(pins:List (Addr × Obj)) (s:Shared) (σ:St) (H:Hp) (x:V) (v vl vu:Value) (lo hi:Option Int) (sl:Addr) (Q:VK),Inv X pins σ H s→RelV x v→s.heap.IsSliceOf sl vl vu .none→IsPart vl lo→IsPart vu hi→r x lo hi H Q→
  ∃T id,typeLookup (.type T) "__getitem__"=pure (some (.builtin id))∧s.TypeIs v T∧wpAny (model X.prog X.w) X.A (getItem v (.ref sl)) (EP X pins σ Q) X.xe s
theorem Ca.or{r r':V→Option Int→Option Int→Hp→VK→Prop}(h:Ca X r)(h':Ca X r'):Ca X (fun x lo hi H Q=>r x lo hi H Q∨r' x lo hi H Q):=by
 intro pins s σ H x v vl vu lo hi sl Q I rx hs pl pu q
 rcases q with q | q
 ·exact h pins s σ H x v vl vu lo hi sl Q I rx hs pl pu q
 ·exact h' pins s σ H x v vl vu lo hi sl Q I rx hs pl pu q
noncomputable def H_(r:V→Option Int→Option Int→Hp→VK→Prop)(te:TE)(tl th:TO):TE:=fun σ H Q=>te σ H fun x H1=>tl σ H1 fun l H2=>th σ H2 fun u H3=>r x l u H3 Q
theorem yY{r:V→Option Int→Option Int→Hp→VK→Prop}(hr:Ca X r)(he:PE X e te)(hl:PO X lo tl)(hu:PO X hi th):PE X (.Subscript e (.Slice lo hi none p2) pos) (H_ r te tl th):=by
 intro pins s σ H Q I h
 refine Subscript_ (dg (he pins s σ H _ I h) fun v s1 ⟨x,H1,I1,r1,q1⟩=>?_)
 refine wpAny_Slice (dg (hl pins s1 σ H1 _ I1 q1) fun vl s2 ⟨l,H2,I2,pl,q2⟩=>dg (hu pins s2 σ H2 _ I2 q2) fun vu s3 ⟨u,H3,I3,pu,q3⟩=>?_)
 rw[evalPart_none]
 refine wpAny_pure ?_
 have I4:Inv X pins σ H3 {s3 with heap:=s3.heap.push {cls:= .type "slice",data:= .fields #[vl,vu, .none]}}:=I3.kept (t':=s3.toks) fun b ob q=>Heap.get?_push_of_some _ q
 obtain⟨T,id,hT,ht,hg⟩:=hr pins {s3 with heap:=s3.heap.push {cls:= .type "slice",data:= .fields #[vl,vu, .none]}} σ H3 x v vl vu l u s3.heap.objs.size Q I4 r1 (Heap.IsSliceOf.new ..) pl pu q3
 show wpAny (model X.prog X.w) X.A (subscriptTail e (.Slice lo hi none p2) v (.ref s3.heap.objs.size)) (EP X pins σ Q) X.xe {s3 with heap:=s3.heap.push {cls:= .type "slice",data:= .fields #[vl,vu, .none]}}
 exact tail_any (ops:=[.ref s3.heap.objs.size,v]) ht hT hg (by with_unfolding_all rfl)
noncomputable def tV(xs:List V)(lo hi:Option Int):List V:=(xs.drop (HT.oZ xs.length 0 lo)).take (HT.oZ xs.length xs.length hi - HT.oZ xs.length 0 lo)
theorem sR(xs:List V)(lo hi:Option Int):(tV xs lo hi).length≤xs.length:=by
 unfold tV
 rw[List.length_take,List.length_drop]
 omega
noncomputable def Iv(K:PySem.W.Frag):V→Option Int→Option Int→Hp→VK→Prop:=fun x lo hi H Q=>∃a xs,x= .ref a∧mz K H a xs∧
 ¬(HT.oZ xs.length 0 lo=0∧HT.oZ xs.length xs.length hi=xs.length)∧∀p,H p=none→Q (.ref p) (upd H p (.tup (tV xs lo hi)))
noncomputable def IQ(K:PySem.W.Frag):R2:=fun x y H Q=>∃a b ns ms,x= .ref a∧y= .ref b∧mz K H a (ns.map V.int)∧mz K H b (ms.map V.int)∧Q (.bl (HT.lexLt ns ms)) H
noncomputable def Hc(K:PySem.W.Frag):R2:=fun x y H Q=>∃a b xs ys,x= .ref a∧y= .ref b∧mz K H a xs∧mz K H b ys∧xs≠[]∧xs.length+ys.length≤sizeLine∧
 (ys=[]→Q (.ref a) H)∧(ys≠[]→∀p,H p=none→Q (.ref p) (upd H p (.tup (xs++ys))))
end
end L2
namespace L2
open PySem PySem.Spec PyProof.Rows
noncomputable def m8(n:Nat)(i:Int):Option Nat:=if 0≤i then(if i < n then some i.toNat else none) else if -(n:Int)≤i then some (i+n).toNat else none
noncomputable def l8{α:Type}(xs:List α)(i:Int):Option α:=(m8 xs.length i).bind fun j=>xs[j]?
theorem uR{n:Nat}{i:Int}{j:Nat}(h:m8 n i=some j):seqIndex? i n=some j∧j < n∧ -(n:Int)≤i∧i < n:=by
 unfold m8 at h
 by_cases h0:0≤i
 ·rw[if_pos h0] at h
  by_cases h1:i < n
  ·rw[if_pos h1] at h
   have e:i.toNat=j:=Option.some.inj h
   exact⟨by rw[seqIndex_of h0 h1,e],by omega,by omega,h1⟩
  ·rw[if_neg h1] at h;cases h
 ·rw[if_neg h0] at h
  by_cases h1: -(n:Int)≤i
  ·rw[if_pos h1] at h
   have e:(i+n).toNat=j:=Option.some.inj h
   exact⟨by rw[seqIndex_neg (by omega) h1,e],by omega,h1,by omega⟩
  ·rw[if_neg h1] at h;cases h
theorem p_{α:Type}{xs:List α}{i:Int}{v:α}(h:l8 xs i=some v):∃j,seqIndex? i xs.length=some j∧xs[j]? =some v∧j < xs.length∧ -(xs.length:Int)≤i∧i < xs.length:=by
 unfold l8 at h
 cases e:m8 xs.length i with
 | none=>rw [e] at h;cases h
 | some j=>
   rw[e] at h
   obtain⟨h1,h2,h3,h4⟩:=uR e
   exact⟨j,h1,h,h2,h3,h4⟩
noncomputable def mP(b:Expr):Prop:=∀o i,subscripted b false o i=operate [o,i] (getItem o i)
noncomputable def Ba(X:Cx)(r:R2):Prop:=
 ∀(value slice:Expr) (pins:List (Addr × Obj)) (s:Shared) (σ:St) (H:Hp) (x y:V) (v u:Value) (Q:VK),Inv X pins σ H s→RelV x v→RelV y u→r x y H Q→
  subscripted slice false v u=operate [v,u] (getItem v u)→wpAny (model X.prog X.w) X.A (subscriptTail value slice v u) (EP X pins σ Q) X.xe s
noncomputable def Hg(X:Cx)(id:String)(r:V→List V→Hp→VK→Prop):Prop:=
 ∀(pins:List (Addr × Obj)) (s:Shared) (σ:St) (H:Hp) (x:V) (xs:List V) (v:Value) (us:List Value) (Q:VK),Inv X pins σ H s→RelV x v→Vals xs us→r x xs H Q→
  wpAny (model X.prog X.w) X.A (call (.builtin id) (v ::us)) (EP X pins σ Q) X.xe s
section
variable {X:Cx} {a b:Expr} {ta tb:TE} {pos:Pos}
theorem Ba.or{r r':R2}(h:Ba X r)(h':Ba X r'):Ba X (fun x y H Q=>r x y H Q∨r' x y H Q):=by
 intro value slice pins s σ H x y v u Q I rx ry q hs
 rcases q with q | q
 ·exact h value slice pins s σ H x y v u Q I rx ry q hs
 ·exact h' value slice pins s σ H x y v u Q I rx ry q hs
theorem BL{r:R2}(hr:Ba X r)(ha:PE X a ta)(hb:PE X b tb)(hs:mP b):PE X (.Subscript a b pos) (Eb r ta tb):=by
 intro pins s σ H Q I h
 exact Subscript_ (C_ ha hb I h fun v u s2 x y H2 I2 rx ry q=>hr a b pins s2 σ H2 x y v u Q I2 rx ry q (hs _ _))
noncomputable def Ey(K:PySem.W.Frag):R2:=fun x y H Q=>∃p xs i v,x= .ref p∧y= .int i∧k3 K H p xs∧l8 xs i=some v∧Q v H
noncomputable def E_(K:PySem.W.Frag):R2:=fun x y H Q=>∃p xs i v,x= .ref p∧y= .int i∧mz K H p xs∧l8 xs i=some v∧Q v H
noncomputable def Fb:R2:=fun x y H Q=>∃z i c,x= .str z∧y= .int i∧z.length≤sizeLine∧l8 z.cps.toList i=some c∧Q (.str ⟨#[c]⟩) H
theorem Br:Ba X (Ey X.K):=by
 intro value slice pins s σ H x y v u Q I rx ry h hs
 obtain⟨p,xs,i,z,rfl,rfl,hq,he,q⟩:=h
 cases rx
 obtain⟨t,rfl⟩:=ry
 obtain⟨its,r,pl,hz⟩:=I.list hq
 obtain⟨j,h1,h2,h3,h4,h5⟩:=p_ he
 obtain⟨w,ew,rw'⟩:=r.get h2
 have hl:=r.length
 have hn:=lO
 have fin:EP X pins σ Q w s:=⟨z,H,I,rw',q⟩
 by_cases h0:0≤i
 ·have hj:i.toNat=j:=by
   rw[seqIndex_of h0 h5] at h1
   exact Option.some.inj h1
  exact item_listR pl.isList h0 (by omega) (by rw[hj];simpa using ew) fin hs
 ·have hj:(i+(its.toArray.size:Int)).toNat=j:=by
   rw[seqIndex_neg (by omega) h4] at h1
   rw[List.size_toArray,←hl]
   exact Option.some.inj h1
  exact subscriptTail_builtinR (x:=w) pl.isList.typeIs slot_list_getitem.lookup
   (wpAny_getItem_list_neg (Q:=fun r s'=>r=w∧EP X pins σ Q r s') pl.isList (by omega) (by rw[List.size_toArray] <;> omega) (by omega) (by rw[hj];simpa using ew) ⟨rfl,fin⟩) hs
theorem DM:Ba X (E_ X.K):=by
 intro value slice pins s σ H x y v u Q I rx ry h hs
 obtain⟨p,xs,i,z,rfl,rfl,hq,he,q⟩:=h
 cases rx
 obtain⟨t,rfl⟩:=ry
 obtain⟨its,r,pl,hz⟩:=I.tuple hq
 obtain⟨j,h1,h2,h3,h4,h5⟩:=p_ he
 obtain⟨w,ew,rw'⟩:=r.get h2
 have hl:=r.length
 have hn:=lO
 have fin:EP X pins σ Q w s:=⟨z,H,I,rw',q⟩
 exact subscriptTail_builtinR (x:=w) pl.typeIs slot_tuple_getitem.lookup
  (getItem_tuple (j:=j) (Q:=fun r s'=>r=w∧EP X pins σ Q r s') pl (by omega) (by omega) (by rw[List.size_toArray,←hl];exact h1) (by simpa using ew) ⟨rfl,fin⟩) hs
theorem Dy:Ba X Fb:=by
 intro value slice pins s σ H x y v u Q I rx ry h hs
 obtain⟨z,i,c,rfl,rfl,hz,he,q⟩:=h
 obtain⟨t,rfl⟩:=rx
 obtain⟨t',rfl⟩:=ry
 obtain⟨j,h1,h2,h3,h4,h5⟩:=p_ he
 have hl:z.cps.toList.length=z.length:=by simp [Str.length]
 rw[hl] at h1 h4 h5
 have hn:=lO
 exact tail_any (typeIs_str s z t) slot_str_getitem.lookup (getItem_str (c:=c) (by
  have e1:decide (i < -(2 ^ 63:Int))=false:=decide_eq_false (by omega)
  have e2:decide (i≥2 ^ 63)=false:=decide_eq_false (by omega)
  rw[e1,e2,Bool.or_false]) (by rw[h1];simpa using h2) ⟨.str ⟨#[c]⟩,H,I.tok _,⟨_,rfl⟩,q⟩) hs
noncomputable def G9(K:PySem.W.Frag):R2:=fun x y H Q=>Ey K x y H Q∨E_ K x y H Q∨Fb x y H Q
theorem yL:Ba X (G9 X.K):=Br.or (DM.or Dy)
theorem uj(its:List Value)(n j:Nat)(u:Value):Obj.mapSeq (·.setIfInBounds j u) {cls:= .type "list",data:= .seq its.toArray n}={cls:= .type "list",data:= .seq (its.set j u).toArray n}:=by
 simp [Obj.mapSeq]
theorem Inv.lst{pins:List (Addr × Obj)}{σ:St}{H:Hp}{s:Shared}{p:Addr}{xs:List V}(I:Inv X pins σ H s)(h:H p=some (.lst xs)) :
 ∃(its:List Value) (n:Nat),Vals xs its∧s.heap.get? p=some {cls:= .type "list",data:= .seq its.toArray n}∧xs.length≤sizeLine:=by
 obtain⟨z,its,n,r,e⟩:=I.hok p _ h
 exact⟨its,n,r,e,z⟩
theorem Inv.DC{pins:List (Addr × Obj)}{σ:St}{H:Hp}{s:Shared}{p:Addr}{xs ys:List V}{its its':List Value}{n n':Nat}{f:Obj→Obj}(I:Inv X pins σ H s)(h:H p=some (.lst xs))
 (ho:s.heap.get? p=some {cls:= .type "list",data:= .seq its.toArray n}) (hf:f {cls:= .type "list",data:= .seq its.toArray n}={cls:= .type "list",data:= .seq its'.toArray n'}) (r:Vals ys its') (hz:ys.length≤sizeLine) (t:Nat) :
 Inv X pins σ (upd H p (.lst ys)) {s with heap:=s.heap.update p f,toks:=t}:=by
 have e:(s.heap.update p f).get? p=some {cls:= .type "list",data:= .seq its'.toArray n'}:=by
  rw[Heap.get?_update_self f ho (by rw[hf] <;> rfl),hf]
 refine I.write (x:=p) (e:=p) (by rw[h];trivial) (.inl rfl) (fun b u hb q=>(Heap.get?_update_other _ _ (Ne.symm hb)).trans q) ⟨_,e⟩ ?_
 exact⟨hz,its',n',r,e⟩
noncomputable def BO:V→V→V→Hp→(Hp→Prop)→Prop:=fun o i v H Q=>∃p xs k j,o= .ref p∧i= .int k∧H p=some (.lst xs)∧m8 xs.length k=some j∧Q (upd H p (.lst (xs.set j v)))
theorem set_list:En X BO:=by
 intro pins s σ H o i v ov iv u Q I ro ri rv h
 obtain⟨p,xs,k,j,rfl,rfl,hp,hj,q⟩:=h
 cases ro
 obtain⟨t,rfl⟩:=ri
 obtain⟨its,n,r,ho,hz⟩:=I.lst hp
 obtain⟨h1,h2,h3,h4⟩:=uR hj
 have hl:=r.length
 have hn:=lO
 have I':Inv X pins σ (upd H p (.lst (xs.set j v))) {s with heap:=s.heap.update p (Obj.mapSeq (·.setIfInBounds j u))}:=
  I.DC hp ho (uj its n j u) (r.set rv j) (by rw[List.length_set];exact hz) s.toks
 by_cases h0:0≤k
 ·have hk:k.toNat=j:=by
   rw[seqIndex_of h0 h4] at h1
   exact Option.some.inj h1
  exact PySem.W.ki_setAt ho h0 (by omega) (by rw[List.size_toArray,←hl];exact h4) (by rw[hk];exact⟨_,I',q⟩)
 ·have hk:(k+(its.toArray.size:Int)).toNat=j:=by
   rw[seqIndex_neg (by omega) h3] at h1
   rw[List.size_toArray,←hl]
   exact Option.some.inj h1
  exact PySem.W.ki_setBack ho (by omega) (by rw[List.size_toArray,←hl];exact h3) (by omega) (by rw[hk];exact⟨_,I',q⟩)
theorem qh(lo hi:Option Int)(n:Nat):(sliceBounds lo hi none n).1=((HT.oZ n 0 lo:Nat):Int)∧(sliceBounds lo hi none n).2.1=((HT.oZ n n hi:Nat):Int)∧(sliceBounds lo hi none n).2.2=1:=by
 refine⟨?_,?_,rfl⟩
 ·cases lo with
  | none=>simp [sliceBounds,HT.oZ]
  | some i=>
    simp only[sliceBounds,HT.oZ,Option.getD_none,show(1:Int) > 0 by decide,if_true]
    by_cases h:i < 0
    ·simp only[h,if_true] <;> omega
    ·simp only[h,if_false] <;> omega
 ·cases hi with
  | none=>simp [sliceBounds,HT.oZ]
  | some i=>
    simp only[sliceBounds,HT.oZ,Option.getD_none,show(1:Int) > 0 by decide,if_true]
    by_cases h:i < 0
    ·simp only[h,if_true] <;> omega
    ·simp only[h,if_false] <;> omega
theorem oU(its:List Value)(lo hi:Option Int):slicePick its.toArray lo hi none=((its.drop (HT.oZ its.length 0 lo)).take (HT.oZ its.length its.length hi - HT.oZ its.length 0 lo)).toArray:=by
 obtain⟨h1,h2,h3⟩:=qh lo hi its.toArray.size
 unfold slicePick
 rw[h1,h2,h3]
 simp only[sliceRange_one,pick_run,List.size_toArray] <;> rfl
noncomputable def G0(K:PySem.W.Frag):V→Option Int→Option Int→Hp→VK→Prop:=fun x lo hi H Q=>∃a xs,x= .ref a∧k3 K H a xs∧∀p,H p=none→Q (.ref p) (upd H p (.lst (tV xs lo hi)))
theorem BC:Ca X (G0 X.K):=by
 intro pins s σ H x v vl vu lo hi sl Q I rx hs pl pu h
 obtain⟨a,xs,rfl,hx,q⟩:=h
 cases rx
 obtain⟨its,r,ht,hz⟩:=I.list hx
 have hlen:=r.length
 refine⟨"list",_,slot_list_getitem.lookup,ht.isList.typeIs,?_⟩
 refine wpAny_getItem_list_slice ht.isList hs pl pu .none (by simp) ?_ (by rw[List.size_toArray] <;> omega)
 rw[oU,←hlen]
 refine⟨.ref s.heap.objs.size,_,I.laid (t':=s.toks) (o:= .lst (tV xs lo hi)) (fun b ob q=>Heap.get?_push_of_some _ q) (Nat.le_refl _) ?_,rfl,q _ (I.hok.fresh (Nat.le_refl _))⟩
 exact⟨Nat.le_trans (sR xs lo hi) hz,_,0,(r.drop (HT.oZ xs.length 0 lo)).take (HT.oZ xs.length xs.length hi - HT.oZ xs.length 0 lo),Heap.get?_push_size _ rfl⟩
noncomputable def jf:V→Bool
 | .cD=>true
 | .bl _=>true
 | .int _=>true
 | .str _=>true
 | _=>false
noncomputable def BQ:V→V→Bool
 | .cD, .cD=>true
 | .bl a, .bl b=>a==b
 | .bl a, .int b=>(if a then 1 else 0)==b
 | .int a, .bl b=>a==(if b then 1 else 0)
 | .int a, .int b=>a==b
 | .str a, .str b=>a==b
 | _,_=>false
theorem DJ{A:Around}{s:Shared}{y x:V}{u v:Value}(ry:RelV y u)(rx:RelV x v)(fy:jf y=true)(fx:jf x=true):SeqAt.EqAt A s u v (BQ y x):=by
 cases y with
 | cD=>
   cases ry
   cases x with
   | cD=>cases rx;exact SeqAt.EqAt.same _
   | bl b=>cases rx;exact SeqAt.EqAt.none_bool b
   | int b=>obtain⟨t,rfl⟩:=rx;exact SeqAt.EqAt.none_int b t
   | str b=>obtain⟨t,rfl⟩:=rx;exact SeqAt.EqAt.none_str b t
   | _=>exact absurd (show false=true from fx) Bool.false_ne_true
 | bl a=>
   cases ry
   cases x with
   | cD=>cases rx;exact SeqAt.EqAt.bool_none a
   | bl b=>cases rx;exact SeqAt.EqAt.bool_bool a b
   | int b=>obtain⟨t,rfl⟩:=rx;exact SeqAt.EqAt.bool_int a b t
   | str b=>obtain⟨t,rfl⟩:=rx;exact SeqAt.EqAt.bool_str a b t
   | _=>exact absurd (show false=true from fx) Bool.false_ne_true
 | int a=>
   obtain⟨t',rfl⟩:=ry
   cases x with
   | cD=>cases rx;exact SeqAt.EqAt.int_none a t'
   | bl b=>cases rx;exact SeqAt.EqAt.int_bool a t' b
   | int b=>obtain⟨t,rfl⟩:=rx;exact SeqAt.EqAt.int_int a t' b t
   | str b=>obtain⟨t,rfl⟩:=rx;exact SeqAt.EqAt.int_str a t' b t
   | _=>exact absurd (show false=true from fx) Bool.false_ne_true
 | str a=>
   obtain⟨t',rfl⟩:=ry
   cases x with
   | cD=>cases rx;exact SeqAt.EqAt.str_none a t'
   | bl b=>cases rx;exact SeqAt.EqAt.str_bool a t' b
   | int b=>obtain⟨t,rfl⟩:=rx;exact SeqAt.EqAt.str_int a t' b t
   | str b=>obtain⟨t,rfl⟩:=rx;exact SeqAt.EqAt.str_str a t' b t
   | _=>exact absurd (show false=true from fx) Bool.false_ne_true
 | _=>exact absurd (show false=true from fy) Bool.false_ne_true
noncomputable def AD(x:V)(u:Value):Bool:=match u with
 | .none=>BQ .cD x
 | .bool b=>BQ (.bl b) x
 | .int i _=>BQ (.int i) x
 | .str z _=>BQ (.str z) x
 | _=>false
theorem x_{x y:V}{u:Value}(r:RelV y u)(f:jf y=true):AD x u=BQ y x:=by
 cases y with
 | cD=>cases r;rfl
 | bl b=>cases r;rfl
 | int i=>obtain⟨t,rfl⟩:=r;rfl
 | str z=>obtain⟨t,rfl⟩:=r;rfl
 | _=>exact absurd (show false=true from f) Bool.false_ne_true
theorem qp{x:V}:∀{xs:List V} {us:List Value},Vals xs us→xs.all jf=true→us.any (AD x)=xs.any fun y=>BQ y x
 | _,_, .nil,_=>rfl
 | y ::xs,u ::us, .cons r t,f=>by
   rw[List.all_cons,Bool.and_eq_true] at f
   rw[List.any_cons,List.any_cons,x_ r f.1,qp t f.2]
theorem nD{A:Around}{s:Shared}{x:V}{v:Value}(rx:RelV x v)(fx:jf x=true):∀{xs:List V} {us:List Value},Vals xs us→xs.all jf=true→∀u∈us,SeqAt.EqAt A s u v (AD x u)
 | _,_, .nil,_=>fun u hu=>by cases hu
 | y ::xs,u ::us, .cons r t,f=>fun u' hu=>by
   rw[List.all_cons,Bool.and_eq_true] at f
   rcases List.mem_cons.mp hu with rfl | hu
   ·rw[x_ r f.1];exact DJ r rx f.1 fx
   ·exact nD rx fx t f.2 u' hu
noncomputable def BY(x:V)(xs:List V):Bool:=xs.any fun y=>BQ y x
noncomputable def HN(K:PySem.W.Frag)(neg:Bool):R2:=fun x y H Q=>∃p xs,y= .ref p∧(k3 K H p xs∨mz K H p xs)∧jf x=true∧xs.all jf=true∧Q (.bl (if neg then !BY x xs else BY x xs)) H
theorem v7:jD X (compareOp .In) (HN X.K false):=by
 intro pins s σ H x y v u Q I rx ry h
 obtain⟨p,xs,rfl,hq,fx,fs,q⟩:=h
 cases ry
 rcases hq with hq | hq
 ·obtain⟨its,r,pl,hz⟩:=I.list hq
  refine SeqAt.in_listAt (AD x) pl.isList (fun w hw=>nD rx fx r fs w (by simpa using hw)) ⟨.bl _,H,I,rfl,?_⟩
  rw[show its.toArray.any (AD x)=its.any (AD x) by simp,qp r fs]
  exact q
 ·obtain⟨its,r,pl,hz⟩:=I.tuple hq
  refine SeqAt.in_tupleAt (AD x) pl (fun w hw=>nD rx fx r fs w (by simpa using hw)) ⟨.bl _,H,I,rfl,?_⟩
  rw[show its.toArray.any (AD x)=its.any (AD x) by simp,qp r fs]
  exact q
theorem o7:jq X (.type "tuple") (fun xs H Q=>∃p ys,xs=[.ref p]∧((k3 X.K H p ys∧∀l,H l=none→Q (.ref l) (upd H l (.tup ys)))∨(mz X.K H p ys∧Q (.ref p) H))):=by
 intro pins s σ H xs us Q I r h
 obtain⟨p,ys,rfl,h⟩:=h
 obtain⟨u,rfl,rx⟩:=vals1 r
 cases rx
 rcases h with⟨hq,q⟩ | ⟨hq,q⟩
 ·obtain⟨its,r',pl,hz⟩:=I.list hq
  have hlen:=r'.length
  refine call_tuple_list pl.isList (fun h' kp=>?_) (by simp only[List.size_toArray] <;> omega)
  have I1:Inv X pins σ H {s with heap:=h'}:=I.kept (t':=s.toks) kp
  have I2:Inv X pins σ (upd H h'.objs.size (.tup ys)) {s with heap:=h'.push {cls:= .type "tuple",data:= .seq its.toArray}}:=
   I1.laid (t':=s.toks) (fun b o e=>Heap.get?_push_of_some _ e) (Nat.le_refl _) (show dj X.prog X.w _ _ _ (.tup ys) from⟨hz,its,r',IsTup.new _ _⟩)
  exact⟨.ref h'.objs.size,_,I2,rfl,q _ (I1.hok.fresh (Nat.le_refl _))⟩
 ·obtain⟨its,r',pl,hz⟩:=I.tuple hq
  exact call_tuple_same pl ⟨.ref p,H,I,rfl,q⟩
noncomputable def Gx(K:PySem.W.Frag)(T:String)(x:V)(H:Hp):Prop:=match x with
 | .str _=>T="str"
 | .int _=>T="int"
 | .ref p=>(T="list"∧∃xs,k3 K H p xs)∨(T="tuple"∧∃o,K.lookup p=some o∧o.cls= .type "tuple"∧o.dict=none)∨
    (T="dict"∧((∃kvs,H p=some (.dK kvs))∨∃kvs,H p=some (.dT kvs)))∨(T="set"∧∃S n,H p=some (.set S n))
 | _=>False
theorem DT{pins:List (Addr × Obj)}{σ:St}{H:Hp}{s:Shared}{T:String}{x:V}{v:Value}(I:Inv X pins σ H s)(r:RelV x v)(ty:Gx X.K T x H) :
 s.TypeIs v T∧∀a,v= .ref a→∃ob,s.heap.get? a=some ob∧ob.dict=none:=by
 cases x with
 | str z=>
   obtain⟨t,rfl⟩:=r
   cases(show T="str" from ty)
   exact⟨typeIs_str s z t,fun _ e=>nomatch e⟩
 | int i=>
   obtain⟨t,rfl⟩:=r
   cases(show T="int" from ty)
   exact⟨typeIs_int s i t,fun _ e=>nomatch e⟩
 | ref p=>
   cases r
   rcases ty with⟨rfl,xs,hq⟩ | ⟨rfl,o,hk,hc,hd⟩ | ⟨rfl,hk⟩ | ⟨rfl,S,n,hk⟩
   ·obtain⟨its,_,pl,_⟩:=I.list hq
    refine⟨pl.isList.typeIs,fun a e=>?_⟩
    cases e
    obtain⟨o,n,e,c,hd,_⟩:=pl
    exact⟨o,e,hd⟩
   ·refine⟨⟨o,I.lJ p o hk,hc⟩,fun a e=>?_⟩
    cases e
    exact⟨o,I.lJ _ o hk,hd⟩
   ·have z:∃o,s.heap.get? p=some o∧o.ExactDict:=by
     rcases hk with⟨kvs,hk⟩ | ⟨kvs,hk⟩
     ·obtain⟨_,_,_,_,o,_,_,e,ex,_⟩:=I.hok p _ hk
      exact⟨o,e,ex⟩
     ·obtain⟨_,_,_,_,o,_,_,e,ex,_⟩:=I.hok p _ hk
      exact⟨o,e,ex⟩
    obtain⟨o,e,ex⟩:=z
    refine⟨⟨o,e,ex.1⟩,fun a e2=>?_⟩
    cases e2
    exact⟨o,e,ex.2.1⟩
   ·obtain⟨o,_,_,_,e,ex,_⟩:=I.hok p _ hk
    refine⟨⟨o,e,ex.1⟩,fun a e2=>?_⟩
    cases e2
    exact⟨o,e,ex.2.1⟩
 | _=>exact False.elim ty
noncomputable def IB(K:PySem.W.Frag)(T:String)(r:V→List V→Hp→VK→Prop)(to:TE):TE:=fun σ H Q=>to σ H fun x H1=>Gx K T x H1∧r x [] H1 Q
noncomputable def Ip(K:PySem.W.Frag)(T:String)(r:V→List V→Hp→VK→Prop)(to:TE)(t:TA):TE:=fun σ H Q=>to σ H fun x H1=>Gx K T x H1∧t σ H1 fun xs H2=>r x xs H2 Q
variable {o e:Expr} {es:List Expr} {to:TE} {t:TA} {name:Str} {apos cpos:Pos} {T id:String} {r:V→List V→Hp→VK→Prop}
theorem yg(pa:PlainAttrs T)(slot:Slot T name id)(hty:typeOf (.builtin id)=pure (.type "method_descriptor"))(hm:Hg X id r)(ho:PE X o to)(ha:PA X (e ::es) t)
 (hbase:attributeBase o name X.env (eval o X.env)=eval o X.env:=by rfl)
 (hfew:((backTo cpos (starEach (e ::es) X.env)).all (fun x=>!x.1) && (backToKw cpos (keywordEach [] X.env)).all (fun x=>x.1.isSome)
   && decide ((e ::es).length+([]:List Keyword).length+(if([]:List Keyword).isEmpty then 0 else 1) < 30))=true:=by rfl)
 (hline:(apos.endLine==cpos.line)=true:=by rfl) (hs:starEach (e ::es) X.env=(false,eval e X.env) ::starEach es X.env:=by rfl) (hplain:(backTo cpos (starEach es X.env)).any (·.1)=false:=by rfl) :
 PE X (.Call (.Attribute o name apos) (e ::es) [] cpos) (Ip X.K T r to t):=by
 intro pins s σ H Q I h
 refine wpAny_Call_method_late hbase hfew hline rfl (dg (ho pins s σ H _ I h) fun v s1 ⟨x,H1,I1,r1,ty,q1⟩=>?_)
 obtain⟨h1,h2⟩:=DT I1 r1 ty
 refine⟨T,id,pa,slot,hty,h1,h2,?_⟩
 have hA:=ha cpos pins s1 σ H1 _ I1 q1
 rw[hs] at hA ⊢
 refine Calls.callWith_builtin (by show(false || (backTo cpos (starEach es X.env)).any (·.1))=false;rw [hplain] <;> rfl) (Calls.evalArgs_plain ?_)
 exact dg hA fun us s2 ⟨vs,H2,I2,r2,q2⟩=>hm pins s2 σ H2 x vs v us Q I2 r1 r2 q2
end
end L2
namespace L2
open PySem PySem.Spec PyProof.Rows
noncomputable def Iy(X:Cx)(id:String)(r:V→List V→Hp→VK→Prop):Prop:=
 ∀(pins:List (Addr × Obj)) (s:Shared) (σ:St) (H:Hp) (x:V) (xs:List V) (v:Value) (us:List Value) (Q:VK),Inv X pins σ H s→RelV x v→Vals xs us→r x xs H Q→
  wpAny (model X.prog X.w) X.A (call (.builtin id) (v ::us)) (EP X pins σ Q) X.xe s
theorem Vals.one:∀{x:V} {us:List Value},Vals [x] us→∃u,us=[u]∧RelV x u
 | _,_, .cons r .nil=>⟨_,rfl,r⟩
theorem Vals.rep{xs:List V}{us:List Value}(h:Vals xs us):∀k:Nat,Vals (List.replicate k xs).flatten (List.replicate k us).flatten
 | 0=> .nil
 | k+1=>by
   rw[List.replicate_succ,List.replicate_succ,List.flatten_cons,List.flatten_cons]
   exact Vals.append h (Vals.rep h k)
theorem foldl_rep(its:List Value):∀(k:Nat) (acc:List Value),
 List.foldl (fun x1 x2=>x1++x2) acc.toArray (List.replicate k its.toArray)=(acc++(List.replicate k its).flatten).toArray
 | 0,acc=>by simp
 | k+1,acc=>by
   have e:acc.toArray++its.toArray=(acc++its).toArray:=by simp
   have e2:(acc++its)++(List.replicate k its).flatten=acc++(List.replicate (k+1) its).flatten:=by
    rw[List.replicate_succ,List.flatten_cons,List.append_assoc]
   rw[←e2,←foldl_rep its k (acc++its),←e,List.replicate_succ,List.foldl_cons]
section
variable {X:Cx} {pins:List (Addr × Obj)} {σ:St} {H:Hp} {s:Shared} {l b:Addr} {xs ys zs:List V}
theorem Inv.GJ{its its':List Value}{n:Nat}{f:Array Value→Array Value}{t':Nat}(I:Inv X pins σ H s)(hH:H l=some (.lst xs))
 (e:s.heap.get? l=some {cls:= .type "list",data:= .seq its.toArray n}) (hf:f its.toArray=its'.toArray) (hv:Vals ys its') (hz:ys.length≤sizeLine) :
 Inv X pins σ (upd H l (.lst ys)) {s with heap:=s.heap.update l (Obj.mapSeq f),toks:=t'}:=by
 have q:=PySem.IsL.update e f
 rw[hf] at q
 refine I.write (x:=l) (e:=l) (by rw[hH];exact trivial) (.inl rfl) (fun b' u hb hu=>(Heap.get?_update_other s.heap (Obj.mapSeq f) (Ne.symm hb)).trans hu) ⟨_,q⟩ ?_
 exact⟨hz,its',_,hv,q⟩
theorem Inv.A6{its:List Value}{t':Nat}(I:Inv X pins σ H s)(hv:Vals ys its)(hz:ys.length≤sizeLine) :
 Inv X pins σ (upd H s.heap.objs.size (.lst ys)) {s with heap:=s.heap.push {cls:= .type "list",data:= .seq its.toArray},toks:=t'}:=
 I.laid (fun _ _ q=>Heap.get?_push_of_some _ q) (Nat.le_refl _) ⟨hz,its,0,hv,Heap.get?_push_size _ rfl⟩
theorem Inv.fresh(I:Inv X pins σ H s):H s.heap.objs.size=none:=I.hok.fresh (Nat.le_refl _)
theorem Inv.EA(I:Inv X pins σ H s)(hH:H l=some (.lst xs)):xs.length≤sizeLine∧∃(its:List Value) (n:Nat),Vals xs its∧xs.length=its.length∧s.heap.get? l=some {cls:= .type "list",data:= .seq its.toArray n}:=by
 obtain⟨z,its,n,r,e⟩:=I.hok l _ hH
 exact⟨z,its,n,r,r.length,e⟩
theorem zL{n:Nat}(h:n≤sizeLine):Builtin.List.listTooLong n=false:=by
 unfold Builtin.List.listTooLong
 exact decide_eq_false (by omega)
end
section
variable {X:Cx}
noncomputable def AR:V→List V→Hp→VK→Prop:=fun x vs H Q=>∃l xs y,x= .ref l∧vs=[y]∧H l=some (.lst xs)∧xs.length < sizeLine∧Q .cD (upd H l (.lst (xs++[y])))
theorem lC:Iy X "list.append" AR:=by
 intro pins s σ H x vs v us Q I rx rv h
 obtain⟨l,xs,y,rfl,rfl,hH,hz,q⟩:=h
 cases rx
 obtain⟨u,rfl,ru⟩:=rv.one
 obtain⟨z,its,n,r,hl,e⟩:=I.EA hH
 refine call_meets F.slot_list_append ⟨_,e,rfl⟩ F.entry_list_append (F.args_list_append_2 _ _) (PySem.list_append l its.toArray n u (by rw[List.size_toArray];omega)) ⟨e,?_⟩
 refine⟨.cD,_,I.GJ (its':=its++[u]) hH e (by simp) (r.append (.cons ru .nil)) ?_,rfl,q⟩
 rw[List.length_append,List.length_singleton]
 omega
noncomputable def F4:V→List V→Hp→VK→Prop:=fun x vs H Q=>∃l b xs zs,x= .ref l∧vs=[.ref b]∧H l=some (.lst xs)∧H b=some (.lst zs)∧xs.length+zs.length≤sizeLine∧Q .cD (upd H l (.lst (xs++zs)))
noncomputable def Iz:V→List V→Hp→VK→Prop:=fun x vs H Q=>∃l xs y,x= .ref l∧vs=[]∧H l=some (.lst xs)∧xs[xs.length - 1]? =some y∧Q y (upd H l (.lst xs.dropLast))
noncomputable def G5:V→List V→Hp→VK→Prop:=fun x vs H Q=>∃l xs i k y,x= .ref l∧vs=[.int i]∧H l=some (.lst xs)∧ -(2 ^ 63)≤i∧i < 2 ^ 63∧seqIndex? i xs.length=some k∧xs[k]? =some y∧Q y (upd H l (.lst (xs.eraseIdx k)))
noncomputable def EG:V→List V→Hp→VK→Prop:=fun x vs H Q=>∃l xs,x= .ref l∧vs=[]∧H l=some (.lst xs)∧Q .cD (upd H l (.lst xs.reverse))
noncomputable def Gb:V→List V→Hp→VK→Prop:=fun x vs H Q=>∃l xs,x= .ref l∧vs=[]∧H l=some (.lst xs)∧Q .cD (upd H l (.lst []))
noncomputable def IH:R2:=fun x y H Q=>∃l b xs zs,x= .ref l∧y= .ref b∧H l=some (.lst xs)∧H b=some (.lst zs)∧xs.length+zs.length≤sizeLine∧∀p,H p=none→Q (.ref p) (upd H p (.lst (xs++zs)))
noncomputable def Gp:R2:=fun x y H Q=>∃l k xs,x= .ref l∧y= .int k∧H l=some (.lst xs)∧ -(2 ^ 63)≤k∧k < 2 ^ 63∧xs.length*k.toNat≤sizeLine∧
 ∀p,H p=none→Q (.ref p) (upd H p (.lst (List.replicate k.toNat xs).flatten))
theorem len_rep{α:Type}(xs:List α)(k:Nat):(List.replicate k xs).flatten.length=k*xs.length:=by
 induction k with
 | zero=>simp
 | succ k ih=>rw [List.replicate_succ,List.flatten_cons,List.length_append,ih,Nat.succ_mul,Nat.add_comm]
theorem Dl:jD X (binaryOp .Mult) Gp:=by
 intro pins s σ H x y v u Q I rx ry h
 obtain⟨l,k,xs,rfl,rfl,hH,h1,h2,hz,q⟩:=h
 cases rx
 obtain⟨t,rfl⟩:=ry
 obtain⟨z,its,n,r,hl,e⟩:=I.EA hH
 have hlen:its.toArray.size*k.toNat≤sizeLine:=by rw[List.size_toArray,←hl];exact hz
 have hcap:¬its.toArray.size*k.toNat > (2 ^ 63 - 1) / 8:=by
  have:(sizeLine:Nat)≤(2 ^ 63 - 1) / 8:=by decide
  omega
 have hfit:¬(!Builtin.List.listFitsIndex k)=true:=by
  rw[fitsIndex_both h1 h2]
  exact Bool.false_ne_true
 have hlong:¬Builtin.List.listTooLong (its.toArray.size*k.toNat)=true:=by
  rw[zL hlen]
  exact Bool.false_ne_true
 have hnew:List.foldl (fun x1 x2=>x1++x2) #[] (List.replicate (if its.toArray.isEmpty=true then 0 else k.toNat) its.toArray)=(List.replicate k.toNat its).flatten.toArray:=by
  have f0:∀m:Nat,List.foldl (fun x1 x2=>x1++x2) #[] (List.replicate m its.toArray)=(List.replicate m its).flatten.toArray:=fun m=>by
   have:=foldl_rep its m []
   rw[List.nil_append] at this
   exact this
  rw[f0]
  cases its with
  | nil=>simp
  | cons a r'=>rw [if_neg (by simp)]
 refine wpAny_binaryOp_repeat_ref (T:="list") (U:="int") (by decide) ⟨_,e,rfl⟩ (fun s'=>typeIs_int s' k t) noFill_list_mul F.fills_int_mul F.slot_int_rmul repeat_list F.slot_int_index.lookup
  (call_meets F.slot_int_rmul (typeIs_int s k t) F.entry_int_rmul (F.args_int_rmul_2 _ _) (int___rmul___int_list k t l its.toArray n)
    ⟨e,rfl,⟨_,e,rfl⟩,call_meets F.slot_list_mul ⟨_,e,rfl⟩ F.entry_list_mul (F.args_list_mul_2 _ _) (AutoListH.list___mul___list_int_3 l its.toArray n k t hfit hcap hlong) ⟨e,?_⟩⟩)
 rw[hnew]
 exact⟨.ref _,_,I.A6 (t':=s.toks) (r.rep k.toNat) (by rw[len_rep,Nat.mul_comm];exact hz),rfl,q _ I.fresh⟩
end
section
variable {prog:Program} {w:World} {A:Around} {E:Value→Shared→Prop} {s:Shared}
set_option maxRecDepth 100000 in
end
section
variable {X:Cx}
end
end L2
namespace Att
open PySem PySem.W PySem.Calls PyProof.Rows
theorem mG{P:Params}{h:Heap}:∀(ns:List Int) (vs:List Value),WellAll P h vs (ns.map WData.int)→IntsAre vs ns:=by
 intro ns
 induction ns with
 | nil=>
   intro vs w
   rw[List.map_nil] at w
   cases w
   exact .nil
 | cons n ns ih=>
   intro vs w
   rw[List.map_cons] at w
   cases w with
   | cons a b=>
     cases a
     exact .cons _ _ (ih _ b)
theorem wj{l:OpenLaw}{n:Nat}(hn:l.most=some n){P:Params}{h:Heap}{args:List WData}{vals:List Value}
 (hpre:l.row.toRowW.claim.pre args=true) (hwl:WellAll P h vals args) :
 ∃a vs ns,vals=[Value.ref a]∧args=[WData.list (ns.map WData.int)]∧h.get? a=some {cls:= .type "list",data:= .seq vs.toArray}∧IntsAre vs ns∧ns.length≤n:=by
 have hsh:WShape.hasAll [] args [.list .int]=true:=(pre_splitW hpre).1
 have hc:l.pre.holds [] {args:=args}=true:=(pre_splitW hpre).2
 obtain⟨d,r,rfl,h1,h2⟩:=hasAllW_cons hsh
 obtain rfl:=hasAllW_nil h2
 obtain⟨xs,rfl,h3⟩:=hasW_list h1
 obtain⟨ns,rfl⟩:=items_int h3
 have hlen:ns.length≤n:=by
  unfold OpenLaw.pre at hc
  have h4:(WTm.not (.lt (.lit (.int (n:Int))) (.len (.arg 0)))).holds [] {args:=[.list (ns.map .int)]}=true:=by
   have h4:=(holds_andW hc).1
   rw[hn] at h4
   exact h4
  have h5:=condW_of h4 (w_not (w_lt w_lit (w_len_list (w_arg rfl))))
  rw[List.length_map] at h5
  refine Nat.le_of_not_lt fun q=>?_
  have q':(n:Int) < ((ns.length:Nat):Int):=by omega
  first
   | (rw [decide_eq_true q'] at h5;exact absurd h5 (by decide))
   | (simp at h5;omega)
 cases hwl with
 | cons w1 w2=>
   cases w2
   cases w1 with
   | list ho hall=>exact⟨_,_,ns,rfl,rfl,ho,mG ns _ hall,hlen⟩
theorem w9(l:OpenLaw)(args:List WData):l.row.toRowW.claim.post args (.bool true) args=true:=
 postW_of (r:=l.row.toRowW) (X:=(true==true))
  (show WShape.has [] (.bool true) .bool=true by first | rfl | decide | simp [WShape.has,WShape.arms,WShape.armsAll])
  (show(WTm.eq .res (.lit (.bool true))).value [] {args:=args,res:=some (.bool true),after:=args}=some (.bool (true==true)) from w_eq_bool (w_res rfl) w_lit) rfl
theorem sM{l:OpenLaw}{n:Nat}{q:Program}{loose:List Str}{XP:(Str→Option Value)→Heap→Prop}{YP:World→Heap→Prop}{d:DefRec}
 (hn:l.most=some n) (hdf:d.params.defaults=[])
 (call:∀(w:World) (s₀ s₁:Shared) (mg mb:Str→Option Value) (fa:Addr) (o:Obj) (pm cd doc:Value) (a:Addr) (vs:List Value) (ns:List Int),
   Ground q loose [] XP w s₀ mg mb s₁.heap→YP w s₁.heap→
   s₁.heap.get? fa=some o→o.data= .func (docDef d.name d.params d.body d.scope pm cd doc)→s₁.heap.CodeRec cd d.name→mg d.name=some (.ref fa)→
   s₁.heap.get? a=some {cls:= .type "list",data:= .seq vs.toArray}→IntsAre vs ns→ns.length≤n→s₁.gens=#[]→
   codeAny (model l.prog w) callerA (.call (.ref fa) ⟨[.ref a],[]⟩) (fun r s'=>r= .ok (.ret (.bool true))∧OldK s₁.heap s'.heap∧s'.os=s₁.os∧AllBare s'.gens) s₁) :
 WalkO q loose XP YP l.row.toRowW d [] (fun f vs=>PySem.call f vs):=by
 intro w s₀ s₁ mg mb G Y fa o pm cd doc dV kV ho hd hcd hD hmg hg args vals as hpre hlay hrd hwl hlo
 obtain rfl:dV= .none:=Dflts.none hD hdf
 obtain rfl:kV= .none:=Dflts.noKw hD
 obtain⟨a,vs,ns,rfl,rfl,hobj,hints,hlen⟩:=wj hn hpre hwl
 refine enter_call (codeAny_mono (call w s₀ s₁ mg mb fa o pm cd doc a vs ns G Y ho (fd_plain hd) hcd hmg hobj hints hlen hg) fun r s' hq=>?_)
 obtain⟨rfl,h2,h3,h4⟩:=hq
 exact⟨.inl ⟨.bool true, .bool true,[],rfl,fun _=>rfl, .bool true,w9 l _,fun _=>⟨List.Pairwise.nil,fun _ hm=>(nomatch hm)⟩⟩,h2,h3,h4⟩
section
variable {prog:Program} {w:World} {A:Around} {E:Value→Shared→Prop} {s:Shared} {K:Frag}
noncomputable def Gj(h:Heap):Heap:={h with objs:=#[]}
noncomputable def ledger(h:Heap)(L d:Addr):List (Addr × Obj):=(List.range h.objs.size).filterMap fun a=>if a=L∨a=d then none else(h.get? a).map fun o=>(a,o)
end
end Att
namespace L2
open PySem PySem.Spec PyProof.Rows
theorem pC:∀{vs:List Value} {ns:List Int},IntsAre vs ns→Vals (ns.map V.int) vs
 | _,_, .nil=> .nil
 | _,_, .cons n t h=> .cons ⟨t,rfl⟩ (pC h)
noncomputable def EB(H:Hp):Prop:=∀b,H b=none∨∃o xs,H b=some (.g6 o (.lst xs))
end L2
namespace L2
open PySem PySem.Spec PyProof.Rows
noncomputable abbrev fj{K:PySem.W.Frag}{h:Heap}(_:K.In h):PySem.W.Frag:=K
end L2
namespace L2
open PySem PySem.Spec PyProof.Rows
noncomputable def inClass(s:Stmt)(j:Nat):Stmt:=match s with
 | .ClassDef _ _ _ body _ _ _ _ _ _ _=>body.getD j (.Pass ⟨0,0,0,0⟩)
 | _=> .Pass ⟨0,0,0,0⟩
noncomputable def gc(s:Stmt):Arguments:=match s with
 | .FunctionDef _ a _ _ _ _ _ _ _ _=>a
 | _=>{posonlyargs:=[],args:=[],vararg:=none,kwonlyargs:=[],kw_defaults:=[],kwarg:=none,defaults:=[]}
noncomputable def aq(s:Stmt):List Stmt:=match s with
 | .FunctionDef _ _ b _ _ _ _ _ _ _=>b
 | _=>[]
noncomputable def ag(s:Stmt):Scope:=match s with
 | .FunctionDef _ _ _ _ _ _ sc _ _ _=>sc
 | _=>{kind:= .function,names:=[],isGenerator:=false,isCoroutine:=false}
noncomputable abbrev pP:xC:=fun _ _ _ _ _ _=>False
noncomputable abbrev E0:XK:=fun _ _ _=>False
theorem sJ{X:Cx}:Passes pP X E0:=fun _ _ _ _ _ _ _ h=>h.elim
structure vd (K:PySem.W.Frag) (x qual:Str) (st:Stmt) (f:Addr) (fd:FuncData):Prop where
 ex:∃(oc:Value) (od:Option Addr) (kV doc pm:Value) (an:Option Addr) (cdv ct:Value) (osl:Array (Option Value)),
  fd=PySem.W.fnOf x qual (gc st) (aq st) (ag st) .none kV doc pm an cdv ct∧K.lookup f=some ⟨oc,od, .func fd,osl⟩∧PySem.W.codeIn K cdv qual=true
 kp:PySem.W.keepIn K (.ref f)=true
section
variable {P:Program} {w:World} {K:PySem.W.Frag} {mg:Str→Option Value} {base:Heap}
theorem vd.ok{x qual:Str}{st:Stmt}{f:Addr}{fd:FuncData}{N ps:List Str}{k:Nat}{sp:Sp}(F:vd K x qual st f fd)(S:aX N ps (ag st))(len:∀vs H Q E,sp vs H Q E→vs.length=ps.length)
 (hbody:∀(cdv:Value) (A:Around) (outer:List Env) (s:Shared) (H:Hp) (vs:List V) (Q:VK) (E:XK),dG k (A.deeper (envOfC qual (ag st) s.heap.objs.size f cdv))→sp vs H Q E→
   ∃t,qS (nu pP P w K mg base N qual (ag st) f cdv A outer s H E).A2 (aq st) t∧t {nx:=fun _ H'=>Q .cD H',rt:=Q} (start N vs) H):gC P w K mg base pP (k+1) f fd ps sp:=by
 obtain⟨oc,od,kV,doc,pm,an,cdv,ct,osl,rfl,lk,hcd⟩:=F.ex
 refine Fw lk hcd S len fun A outer s H vs Q E hr hsp=>?_
 obtain⟨t,h,q⟩:=hbody cdv A outer s H vs Q E hr hsp
 exact⟨t,h.A2,q⟩
theorem vd.binds{x qual:Str}{st:Stmt}{f:Addr}{fd:FuncData}{ps:List Str}(F:vd K x qual st f fd)
 (h:∀(kV doc pm:Value) (an:Option Addr) (cdv ct:Value) (us:List Value),us.length=ps.length→bindArgs (PySem.W.fnOf x qual (gc st) (aq st) (ag st) .none kV doc pm an cdv ct) ⟨us,[]⟩=pure (ps.zip us)):Binds K fd ps []:=by
 obtain⟨oc,od,kV,doc,pm,an,cdv,ct,osl,rfl,lk,hcd⟩:=F.ex
 exact .all (h kV doc pm an cdv ct)
theorem nY{x qual:Str}{st:Stmt}{f:Addr}{oc:Value}{od an:Option Addr}{osl:Array (Option Value)}{kV doc pm cdv ct:Value}(l:K.lookup f=some ⟨oc,od, .func (PySem.W.fnOf x qual (gc st) (aq st) (ag st) .none kV doc pm an cdv ct),osl⟩)
 (c:PySem.W.codeIn K cdv qual=true) (k:PySem.W.keepIn K (.ref f)=true):vd K x qual st f (PySem.W.fnOf x qual (gc st) (aq st) (ag st) .none kV doc pm an cdv ct):=⟨⟨oc,od,kV,doc,pm,an,cdv,ct,osl,rfl,l,c⟩,k⟩
end
theorem EE{A:Around}{k:Nat}(hr:dG k A):A.units+1 < cLine:=Nat.lt_of_le_of_lt (Nat.add_le_add_left (by decide:1≤64) _) hr.units
section
variable {X:Cx}
end
theorem xV{A B:Prop}(h:B):if false=true then A else B:=by
 rw[if_neg Bool.false_ne_true]
 exact h
theorem yh{A B:Prop}(h:A):if true=true then A else B:=by
 rw[if_pos rfl]
 exact h
noncomputable def aN(H H':Hp):Prop:=∀b o,H b=some o→H' b=some o
theorem aN.refl(H:Hp):aN H H:=fun _ _ h=>h
theorem aN.trans{H H1 H2:Hp}(a:aN H H1)(b:aN H1 H2):aN H H2:=fun c o h=>b c o (a c o h)
theorem aN.free{H H':Hp}(e:aN H H'){l:Addr}(h:H' l=Option.none):H l=Option.none:=by
 cases q:H l with
 | none=>rfl
 | some o=>
   rw[e l o q] at h
   cases h
section
variable {κ:Type} [DecidableEq κ]
end
end L2
end
section
set_option maxRecDepth 100000
set_option maxHeartbeats 4000000
namespace L2
open PySem PySem.Spec PyProof.Rows
noncomputable def mB(cells:List (Str × Addr)):List (Str × NameKind)→List (Str × Addr)→List (Str × Addr)
 | [],acc=>acc
 | (n,k) ::r,acc=>mB cells r (if k==NameKind.free then(n,(cells.lookup n).getD 0) ::acc else acc)
theorem i7{env:Env}:∀(names:List (Str × NameKind)) (acc:List (Str × Addr)),(∀y∈names,y.2= .free→∃c,env.cells.lookup y.1=some c)→
 (forIn names acc fun(x:Str × NameKind) (cs:List (Str × Addr))=>(match x with
   | (name,kind)=>if kind== .free then do let a ←cellOf env name;pure (ForInStep.yield ((name,a) ::cs)) else pure (ForInStep.yield cs):Sem (ForInStep (List (Str × Addr)))))=pure (mB env.cells names acc)
 | [],acc,_=>by simp [mB]
 | (n,k) ::r,acc,h=>by
   rw[List.forIn_cons]
   by_cases hk:k=NameKind.free
   ·subst hk
    obtain⟨c,hc⟩:=h (n, .free) List.mem_cons_self rfl
    have e:cellOf env n=pure c:=by unfold cellOf;rw [hc]
    simp only[beq_self_eq_true,if_true,e,pure_bind,mB,hc,Option.getD_some]
    exact i7 r _ fun y hy=>h y (List.mem_cons_of_mem _ hy)
   ·have hb:(k==NameKind.free)=false:=by simpa using hk
    simp only[hb,Bool.false_eq_true,if_false,pure_bind,mB]
    exact i7 r _ fun y hy=>h y (List.mem_cons_of_mem _ hy)
theorem jh{env:Env}{scope:Scope}(h:∀y∈scope.names,y.2= .free→∃c,env.cells.lookup y.1=some c):closureFor scope env=pure (mB env.cells scope.names []):=by
 unfold closureFor
 have:=i7 (env:=env) scope.names [] h
 simp only[bind_pure]
 exact this
theorem jK{cells:List (Str × Addr)}:∀(names:List (Str × NameKind)) (acc:List (Str × Addr)) {x:Str} {c:Addr},(mB cells names acc).lookup x=some c→
 acc.lookup x=some c∨((x,NameKind.free)∈names∧c=(cells.lookup x).getD 0)
 | [],acc,x,c,h=> .inl h
 | (n,k) ::r,acc,x,c,h=>by
   rcases jK r _ h with q | ⟨q1,q2⟩
   ·by_cases hk:k=NameKind.free
    ·subst hk
     simp only[beq_self_eq_true,if_true] at q
     cases hx:x==n with
     | true=>
       have e:x=n:=by simpa using hx
       subst e
       rw[List.lookup_cons,hx] at q
       exact .inr ⟨List.mem_cons_self,(Option.some.inj q).symm⟩
     | false=>
       rw[List.lookup_cons,hx] at q
       exact .inl q
    ·have hb:(k==NameKind.free)=false:=by simpa using hk
     simp only[hb,Bool.false_eq_true,if_false] at q
     exact .inl q
   ·exact .inr ⟨List.mem_cons_of_mem _ q1,q2⟩
theorem rJ{cells:List (Str × Addr)}:∀(names:List (Str × NameKind)) (acc:List (Str × Addr)) {x:Str},((x,NameKind.free)∈names∨∃c,acc.lookup x=some c)→∃c,(mB cells names acc).lookup x=some c
 | [],acc,x,h=>by
   rcases h with h | h
   ·simp at h
   ·exact h
 | (n,k) ::r,acc,x,h=>by
   refine rJ r _ ?_
   rcases h with h | ⟨c,h⟩
   ·rcases List.mem_cons.mp h with e | e
    ·cases e
     exact .inr ⟨(cells.lookup n).getD 0,by simp [List.lookup_cons]⟩
    ·exact .inl e
   ·by_cases hk:k=NameKind.free
    ·subst hk
     simp only[beq_self_eq_true,if_true]
     cases hx:x==n with
     | true=>exact .inr ⟨(cells.lookup n).getD 0,by rw[List.lookup_cons,hx]⟩
     | false=>exact .inr ⟨c,by rw[List.lookup_cons,hx];exact h⟩
    ·have hb:(k==NameKind.free)=false:=by simpa using hk
     simp only[hb,Bool.false_eq_true,if_false]
     exact .inr ⟨c,h⟩
noncomputable def bu(X:Cx)(scope:Scope)(N':List Str)(fp:List Addr)(s:Shared)(H:Hp):Cx where
 prog:=X.prog
 w:=X.w
 K:=X.K
 mg:=X.mg
 base:=X.base
 A:=X.A
 N:=N'
 s₀:=s
 H₀:=H
 env:=compEnvC scope (mB X.env.cells scope.names []) s.heap.objs.size X.env
 outer:=X.stack
 stack:=X.stack
 ex:=fp
 fn:=fun _=>false
 calm:=X.calm
 pn:=[]
 xe:=fun _ _=>False
structure b_ (X:Cx) (scope:Scope) (own:List Str) (kp:List Nat) (kn:List Str):Prop where
 kind:scope.kind= .function
 nocell:∀y∈scope.names,y.2≠ .cell
 nd:∀y∈scope.names,y.2= .local→scope.names.lookup y.1=some .local
 free:∀y∈scope.names,y.2= .free→X.env.kindOf y.1=some .cell∨X.env.kindOf y.1=some .free
 names:kn.length=kp.length
 at_:∀(j i:Nat) (x:Str),kp[j]? =some i→kn[j]? =some x→X.N[i]? =some x
 isfree:∀x∈kn,scope.names.lookup x=some .free
noncomputable def c6(own:List Str)(kp:List Nat)(σ:St):St:=List.replicate own.length none++kp.map fun i=>(σ[i]?).getD none
section
variable {X:Cx} {scope:Scope} {own:List Str} {kp:List Nat} {kn:List Str}
theorem dU{env:Env}:∀{names:List (Str × NameKind)} {x:Str} {k:NameKind},
 (names.map fun(n,k)=>if(k==NameKind.free && env.scope.kind== .function && env.kindOf n==some .cell) then(n,NameKind.cell) else(n,k)).lookup x=some k→
 names.lookup x=some k∨(k= .cell∧names.lookup x=some .free)
 | [],_,_,h=>by simp at h
 | (n,k) ::r,x,k',h=>by
   have ih:=@dU env r x k'
   have h:List.lookup x ((if(k==NameKind.free && env.scope.kind== .function && env.kindOf n==some .cell)=true then(n,NameKind.cell) else(n,k)) ::_)=some k':=h
   by_cases hc:(k==NameKind.free && env.scope.kind== .function && env.kindOf n==some .cell)=true
   ·rw[if_pos hc] at h
    have hkf:k= .free:=by
     simp only[Bool.and_eq_true,beq_iff_eq] at hc
     exact hc.1.1
    cases hx:x==n with
    | true=>
      rw[List.lookup_cons,hx] at h
      cases h
      exact .inr ⟨rfl,by rw[List.lookup_cons,hx,hkf]⟩
    | false=>
      rw[List.lookup_cons,hx] at h
      rw[List.lookup_cons,hx]
      exact ih h
   ·rw[if_neg hc] at h
    cases hx:x==n with
    | true=>
      rw[List.lookup_cons,hx] at h
      rw[List.lookup_cons,hx]
      exact .inl h
    | false=>
      rw[List.lookup_cons,hx] at h
      rw[List.lookup_cons,hx]
      exact ih h
theorem kQ{pins:List (Addr × Obj)}{σ:St}{H:Hp}{s:Shared}(C:b_ X scope own kp kn)(I:Inv X pins σ H s):∀y∈scope.names,y.2= .free→∃c,X.env.cells.lookup y.1=some c:=fun y hy hf=>
 I.ok.has y.1 (C.free y hy hf)
theorem zF{pins:List (Addr × Obj)}{σ:St}{H:Hp}{s:Shared}{fp:List Addr}{h₁:Heap}{tk:Nat}(C:b_ X scope own kp kn)(I:Inv X pins σ H s)(hf:∀b∈fp,mF X pins H b)(hb:∀b∈fp,b < s.heap.objs.size)
 (hn:h₁.Ns s.heap.objs.size (fun _=>none)) (hk:∀b o,s.heap.get? b=some o→h₁.get? b=some o):Inv (bu X scope (own++kn) fp s H) [] (c6 own kp σ) H {s with heap:=h₁,toks:=tk}:=by
 have cl:∀x c,(mB X.env.cells scope.names []).lookup x=some c→X.env.cells.lookup x=some c:=fun x c e=>by
  rcases jK scope.names [] e with q | ⟨q1,q2⟩
  ·simp at q
  ·obtain⟨c',hc'⟩:=kQ C I (x, .free) q1 rfl
   have hc':X.env.cells.lookup x=some c':=hc'
   rw[hc'] at q2
   rw[hc',q2]
   rfl
 have clh:∀x,scope.names.lookup x=some .free→∃c,(mB X.env.cells scope.names []).lookup x=some c:=fun x hx=>rJ scope.names [] (.inl (PySem.mem_of_lookup hx))
 refine⟨⟨I.ok.mod,C.kind,I.ok.glob,I.ok.blt,Nat.le_refl _,fun x y c h1 h2=>I.ok.inj x y c (cl x c h1) (cl y c h2),fun x hx=>?_,fun x c h=>(by cases h),I.ok.hd,I.ok.frames, .inl rfl,fun b hb'=>⟨Nat.ne_of_lt (hb b hb'),fun x c e z=>(hf b hb').2.2.2.2.1 x c (cl x c e) z⟩,
  fun b o e=>I.bs b o e,Nat.le_trans I.ok.bsz I.sz,fun b o e hb'=>?_,fun b hb' hs=>?_,I.stack,I.vc⟩,
  rfl,I.bare,Un.kept hk,⟨_,hn,fun i x v h1 h2 h3=>?_⟩,fun x c e=>?_,I.hok.fresh (Nat.le_refl _),fun x c e=>I.freeC x c (cl x c e),fun p hp=>(by cases hp),I.hok.kept hk,?_⟩
 ·have hx:(relabel scope X.env).names.lookup x=some .cell∨(relabel scope X.env).names.lookup x=some .free:=hx
  rcases hx with hx | hx
  ·rcases dU hx with q | ⟨_,q⟩
   ·exact absurd rfl (C.nocell _ (PySem.mem_of_lookup q))
   ·exact clh x q
  ·rcases dU hx with q | ⟨q,_⟩
   ·exact clh x q
   ·cases q
 ·rcases(hf b hb').2.2.2.1 with z | z
  ·exact I.ok.noex b o e z
  ·exact absurd (Nat.lt_of_lt_of_le (Heap.lt_size (I.ok.bs b o e).1) z) (Nat.lt_irrefl _)
 ·rcases List.mem_cons.mp (I.uw b hs) with z | z
  ·exact(hf b hb').2.1 z
  ·exact(hf b hb').2.2.1 z
 ·-- a kept name
  have h1:(own++kn)[i]? =some x:=h1
  have h2:(c6 own kp σ)[i]? =some (some v):=h2
  unfold c6 at h2
  by_cases hi:i < own.length
  ·rw[List.getElem?_append_left (by simpa using hi),List.getElem?_replicate] at h2
   split at h2 <;> cases h2
  ·rw[List.getElem?_append_right (by simpa using hi),List.length_replicate,List.getElem?_map] at h2
   rw[List.getElem?_append_right (by simpa using hi)] at h1
   cases e:kp[i - own.length]? with
   | none=>rw [e] at h2;cases h2
   | some j=>
     rw[e] at h2
     have h2:(σ[j]?).getD none=some v:=Option.some.inj h2
     have hj:X.N[j]? =some x:=C.at_ _ j x e h1
     have hσ:σ[j]? =some (some v):=by
      cases q:σ[j]? with
      | none=>rw [q] at h2;cases h2
      | some y=>rw [q] at h2;exact congrArg some h2
     have hfree:scope.names.lookup x=some .free:=C.isfree x (List.mem_of_getElem? h1)
     have hkind:=C.free (x, .free) (PySem.mem_of_lookup hfree) rfl
     obtain⟨m,hm,hl⟩:=I.loc
     obtain⟨u,r,l⟩:=hl j x v hj hσ (hkind.elim (fun q=>Or.inr (Or.inl q)) fun q=>Or.inr (Or.inr q))
     refine⟨u,r, .inr ⟨?_,?_⟩⟩
     ·have h3:(relabel scope X.env).names.lookup x=some .local∨(relabel scope X.env).names.lookup x=some .cell∨(relabel scope X.env).names.lookup x=some .free:=h3
      rcases h3 with q | q | q
      ·rcases dU q with z | ⟨z,_⟩
       ·rw[hfree] at z;cases z
       ·cases z
      ·exact .inl q
      ·exact .inr q
     ·rcases l with⟨k,_⟩ | ⟨_,c,hc,hcell⟩
      ·rcases hkind with q | q
       ·rw[show X.env.kindOf x=some .cell from q] at k;cases k
       ·rw[show X.env.kindOf x=some .free from q] at k;cases k
      ·obtain⟨c',hc'⟩:=clh x hfree
       have:=cl x c' hc'
       rw[hc] at this
       cases this
       obtain⟨o,ho,hd⟩:=hcell
       exact⟨c,hc',o,hk c o ho,hd⟩
 ·obtain⟨v,o,ho,hd⟩:=I.cell x c (cl x c e)
  exact⟨v,o,hk c o ho,hd⟩
 ·show(c6 own kp σ).length=(own++kn).length
  unfold c6
  rw[List.length_append,List.length_replicate,List.length_map,List.length_append,C.names]
theorem oy{pins:List (Addr × Obj)}{σ σ':St}{H H':Hp}{s s':Shared}{fp:List Addr}{N':List Str}(I:Inv X pins σ H s)(hf:∀b∈fp,mF X pins H b)(J:Inv (bu X scope N' fp s H) [] σ' H' s'):Inv X pins σ H' s':=
 I.EU (ch:=fp) J.os J.base J.hok J.bare fun b hb=>⟨(hf b hb).2.2.2.1,(hf b hb).2.1,(hf b hb).2.2.2.2.1,(hf b hb).2.2.2.2.2⟩
end
noncomputable def mO(X:Cx)(ifs:List Expr)(t:TT):Prop:=
 ∀(pins:List (Addr × Obj)) (s:Shared) (σ:St) (H:Hp) (Q:Bool→Hp→Prop),Inv X pins σ H s→t σ H Q→
  wpAny (model X.prog X.w) X.A (forIn ifs true fun c r=>if r=true then do let ok ←isTrue c X.env (eval c X.env);pure (ForInStep.yield ok) else pure (ForInStep.yield r)) (TP X pins σ Q) X.xe s
noncomputable def Gy:TT:=fun _ H Q=>Q true H
theorem q9{X:Cx}:mO X [] Gy:=fun _ _ _ H _ I h=>wpAny_tests_nil ⟨H,I,h⟩
theorem ym{X:Cx}{c:Expr}{t:TT}(h:PT X c t):mO X [c] t:=fun pins s σ H Q I hq=>wpAny_tests_one (h pins s σ H Q I hq)
noncomputable def uM(wi:TI)(g:TG)(tc:TT)(te:TE)(own:List Str)(kp:List Nat):TE:=fun σ H Q=>wi σ H fun J H1=>∀D,H1 D=none→
 ∃W:Nat→Nat→List V→Hp→Prop,(∃m,W 0 m [] (upd H1 D (.lst [])))∧∀i m ys H,W i m ys H→
  (J.stop i H∧Q (.ref D) H)∨(J.go i H∧∀x H',J.yld i H x H'→g x (c6 own kp σ) H' fun σ2 H2=>tc σ2 H2 fun c H3=>
    if c=true then te σ2 H3 fun y H4=>H4 D=some (.lst ys)∧ys.length < sizeLine∧∃m',m' < m∧W (i+1) m' (ys++[y]) (upd H4 D (.lst (ys++[y])))
    else ∃m',m' < m∧W (i+1) m' ys H3)
section
variable {X:Cx} {scope:Scope} {own:List Str} {kp:List Nat} {kn:List Str} {tg iter elt:Expr} {ifs:List Expr} {wi:TI} {g:TG} {tc:TT} {te:TE} {pos:Pos}
theorem sr{pins:List (Addr × Obj)}{σ:St}{H:Hp}{s:Shared}{fp:List Addr}{it D:Addr}{tn:Nat→Heap→Prop}{J:It}{Q:VK}{h₁:Heap}{tk:Nat}{R:Result→Shared→Prop}
 (hc:X.calm=true) (C:b_ X scope own kp kn) (I:Inv X pins σ H s) (hf:∀b∈fp,mF X pins H b) (hb:∀b∈fp,b < s.heap.objs.size) (T:Turn X.prog X.w X.K tg J fp it tn)
 (hg:PG (bu X scope (own++kn) fp s H) tg g) (hi:mO (bu X scope (own++kn) fp s H) ifs tc) (he:PE (bu X scope (own++kn) fp s H) elt te)
 (hn:h₁.Ns s.heap.objs.size (fun _=>none)) (hk:∀b o,s.heap.get? b=some o→h₁.get? b=some o) (st:tn 0 s.heap)
 (W:Nat→Nat→List V→Hp→Prop) (w0:∃m,W 0 m [] H)
 (turn:∀i m ys H,W i m ys H→
   (J.stop i H∧Q (.ref D) H)∨(J.go i H∧∀x H',J.yld i H x H'→g x (c6 own kp σ) H' fun σ2 H2=>tc σ2 H2 fun c H3=>
     if c=true then te σ2 H3 fun y H4=>H4 D=some (.lst ys)∧ys.length < sizeLine∧∃m',m' < m∧W (i+1) m' (ys++[y]) (upd H4 D (.lst (ys++[y])))
     else ∃m',m' < m∧W (i+1) m' ys H3))
 (hR:∀H' s' σ',Inv (bu X scope (own++kn) fp s H) [] σ' H' s'→Q (.ref D) H'→R (.ok .next) s') :
 codeAny (model X.prog X.w) X.A (.compStart (.ListComp elt [⟨tg,iter,ifs,0⟩] scope pos) 0 (.ref it) (.ref D) (bu X scope (own++kn) fp s H).env) R {s with heap:=h₁,toks:=tk}:=by
 have I1:Inv (bu X scope (own++kn) fp s H) [] (c6 own kp σ) H {s with heap:=h₁,toks:=tk}:=zF C I hf hb hn hk
 have st1:tn 0 h₁:=T.keep _ _ _ st fun b _ o e=>hk b o e
 have fp1:∀{H':Hp} {p:List (Addr × Obj)},(∀b∈fp,H' b=none)→(∀b∈fp,∀q∈p,q.1≠b)→∀b∈fp,mF (bu X scope (own++kn) fp s H) p H' b:=fun {H' p} hn hp b hb'=>
  ⟨hn b hb',(I1.ok.exf b hb').1,I1.ok.exfs b hb', .inl hb',fun x c e=>(I1.ok.exf b hb').2 x c e,fun q hq=>hp b hb' q hq⟩
 obtain⟨m0,w0⟩:=w0
 have loop:codeAny (model X.prog X.w) X.A (.compLoop (.ListComp elt [⟨tg,iter,ifs,0⟩] scope pos) 0 (.ref it) (.ref D) (bu X scope (own++kn) fp s H).env) R {s with heap:=h₁,toks:=tk}:=by
  refine codeAny_loop rfl (fun n s'=>∃i ys H',Inv (bu X scope (own++kn) fp s H) [] (c6 own kp σ) H' s'∧tn i s'.heap∧(∀b∈fp,H' b=none)∧W i n ys H') (fun n s' hI=>?_) m0 ⟨0,[],H,I1,st1,fun b hb'=>(hf b hb').1,w0⟩
  obtain⟨i,ys,H3,I3,st3,fr3,w3⟩:=hI
  show wpAny _ _ ((compTurn (.ListComp elt [⟨tg,iter,ifs,0⟩] scope pos) 0 (.ref it) (.ref D) (bu X scope (own++kn) fp s H).env).onRaise (fun x=>do noteFrame x (bu X scope (own++kn) fp s H).env;theTreesLotGoes x)) _ _ s'
  refine wpAny_noted (wpAny_noRaise ?_)
  rw[compTurn_list]
  refine wpAny_bind (wpAny_standAt (wpAny_bind ?_))
  rcases turn i n ys H3 w3 with⟨stop,q⟩ | ⟨go,step⟩
  ·refine dg (T.done (bu X scope (own++kn) fp s H) rfl rfl rfl hc i [] s' _ H3 _ I3 (fp1 fr3 (fun _ _ q hq=>by cases hq)) st3 stop) fun r s4 ⟨hr,I4⟩=>?_
   subst hr
   exact wpAny_pure (hR H3 s4 _ I4 q)
  ·refine dg (T.item (bu X scope (own++kn) fp s H) rfl rfl rfl hc i [] s' _ H3 _ I3 (fp1 fr3 (fun _ _ q hq=>by cases hq)) st3 go) fun r s4 ⟨u,hr,h4⟩=>?_
   subst hr
   refine wpAny_bind (dg h4 fun _ s5 ⟨x,H5,I5,r5,y5,st5,fr5⟩=>?_)
   have I5':=I5.pinned (fp1 fr5 (fun _ _ q hq=>by cases hq)) (T.obj _ _ st5)
   have keepIt:∀{σ7:St} {H7:Hp} {s7:Shared},Inv (bu X scope (own++kn) fp s H) ([]++kG fp s5.heap) σ7 H7 s7→tn (i+1) s7.heap∧∀b∈fp,H7 b=none:=fun {σ7 H7 s7} I7=>by
    refine⟨T.keep _ _ _ st5 fun b hb o e=>(I7.pin (b,o) (List.mem_append_right _ (List.mem_append_right _ (iQ hb e)))).1,fun b hb=>?_⟩
    obtain⟨o,e,d⟩:=T.obj _ _ st5 b hb
    exact(I7.pin (b,o) (List.mem_append_right _ (List.mem_append_right _ (iQ hb e)))).2.1
   have reset:∀{σ7:St} {H7:Hp} {s7:Shared},Inv (bu X scope (own++kn) fp s H) ([]++kG fp s5.heap) σ7 H7 s7→Inv (bu X scope (own++kn) fp s H) [] (c6 own kp σ) H7 s7:=fun {σ7 H7 s7} I7=>by
    have I8:=I7.lr
    have hun:Un (xh X.stack) fp H H7 s.heap s7.heap:=I8.base
    have I9:Inv X pins σ H7 s7:=oy I hf I8
    refine⟨I8.ok,I8.os,I8.bare,I8.base,?_,I8.cell,I8.free,I8.freeC,I8.pin,I8.hok,I1.len⟩
    obtain⟨m,hm,_⟩:=I8.loc
    refine⟨m,hm,fun i x v h1 h2 h3=>?_⟩
    obtain⟨m1,hm1,hl1⟩:=I1.loc
    obtain⟨u1,r1,l1⟩:=hl1 i x v h1 h2 h3
    have h1:(own++kn)[i]? =some x:=h1
    have h2:(c6 own kp σ)[i]? =some (some v):=h2
    unfold c6 at h2
    by_cases hi:i < own.length
    ·rw[List.getElem?_append_left (by simpa using hi),List.getElem?_replicate] at h2
     split at h2 <;> cases h2
    ·rw[List.getElem?_append_right (by simpa using hi),List.length_replicate,List.getElem?_map] at h2
     rw[List.getElem?_append_right (by simpa using hi)] at h1
     cases e:kp[i - own.length]? with
     | none=>rw [e] at h2;cases h2
     | some j=>
       rw[e] at h2
       have h2:(σ[j]?).getD none=some v:=Option.some.inj h2
       have hj:X.N[j]? =some x:=C.at_ _ j x e h1
       have hσ:σ[j]? =some (some v):=by
        cases q:σ[j]? with
        | none=>rw [q] at h2;cases h2
        | some y=>rw [q] at h2;exact congrArg some h2
       have hfree:scope.names.lookup x=some .free:=C.isfree x (List.mem_of_getElem? h1)
       have hkind:=C.free (x, .free) (PySem.mem_of_lookup hfree) rfl
       obtain⟨m9,hm9,hl9⟩:=I9.loc
       obtain⟨u,r,l⟩:=hl9 j x v hj hσ (hkind.elim (fun q=>Or.inr (Or.inl q)) fun q=>Or.inr (Or.inr q))
       refine⟨u,r, .inr ?_⟩
       rcases l1 with⟨k,k2⟩ | ⟨k,c,hc,hcell⟩
       ·have k:(relabel scope X.env).names.lookup x=some .local:=k
        rcases dU k with z | ⟨z,_⟩
        ·rw[hfree] at z;cases z
        ·cases z
       ·refine⟨k,c,hc,?_⟩
        rcases l with⟨k',_⟩ | ⟨_,c',hc',hcell'⟩
        ·rcases hkind with q | q
         ·rw[show X.env.kindOf x=some .cell from q] at k';cases k'
         ·rw[show X.env.kindOf x=some .free from q] at k';cases k'
        ·have hcl:(mB X.env.cells scope.names []).lookup x=some c:=hc
         rcases jK scope.names [] hcl with q | ⟨q1,q2⟩
         ·simp at q
         ·rw[hc'] at q2
          have q2:c=c':=q2
          rw[q2]
          exact hcell'
   have hmm:=hg ([]++kG fp s5.heap) s5 (c6 own kp σ) H5 x u _ I5' r5 (step x H5 y5)
   refine wpAny_bind (dg hmm fun _ s6 ⟨σ6,H6,I6,q6⟩=>?_)
   refine wpAny_bind (dg (hi _ s6 σ6 H6 _ I6 q6) fun ok s7 ⟨H7,I7,q7⟩=>?_)
   cases ok with
   | false=>
     simp only[Bool.false_eq_true,if_false] at q7 ⊢
     obtain⟨m',hm',w7⟩:=q7
     obtain⟨a1,a2⟩:=keepIt I7
     exact wpAny_pure ⟨rfl,m',hm',i+1,ys,H7,reset I7,a1,a2,w7⟩
   | true=>
     simp only[if_true] at q7 ⊢
     refine wpAny_bind (wpAny_bind (dg (he _ s7 σ6 H7 _ I7 q7) fun yv s8 ⟨y,H8,I8,r8,hD,hlt,m',hm',w8⟩=>wpAny_bind ?_))
     obtain⟨a1,a2⟩:=keepIt I8
     refine dg (lC _ s8 σ6 H8 (.ref D) [y] (.ref D) [yv] (fun v H9=>v= .cD∧H9=upd H8 D (.lst (ys++[y]))) I8 rfl (.cons r8 .nil) ⟨D,ys,y,rfl,rfl,hD,hlt,rfl,rfl⟩) fun _ s9 ⟨v9,H9,I9,_,_,e9⟩=>?_
     subst e9
     obtain⟨b1,b2⟩:=keepIt I9
     exact wpAny_pure (wpAny_pure ⟨rfl,m',hm',i+1,ys++[y],_,reset I9,b1,b2,w8⟩)
 exact codeAny_compStart_list loop (T.self _ _ _ _ _ st1 loop)
theorem uH(hc:X.calm=true)(C:b_ X scope own kp kn)(hi:PI X tg iter wi)(hg:∀fp s H,PG (bu X scope (own++kn) fp s H) tg g)(hif:∀fp s H,mO (bu X scope (own++kn) fp s H) ifs tc)
 (he:∀fp s H,PE (bu X scope (own++kn) fp s H) elt te) (hs:∀x,foldedSetIterable iter X.env x=pure x:=by intro _;rfl):PE X (.ListComp elt [⟨tg,iter,ifs,0⟩] scope pos) (uM wi g tc te own kp):=by
 intro pins s σ H Q I h
 rw[eval_ListComp]
 refine wpAny_comprehension_free (use:=none) rfl hs (jh (kQ C I)) C.kind C.nd (dg (hi pins s σ H _ I h) fun v s1 h1=>dg h1 fun itv s2 h2=>?_)
 obtain⟨it,fp,tn,J,H2,e,I2,T,st2,f2,q⟩:=h2
 subst e
 refine wpAny_newObj_type ?_
 have I3:Inv X pins σ (upd H2 s2.heap.objs.size (.lst [])) {s2 with heap:=s2.heap.push {cls:= .type "list",dict:=none,data:= .seq ([]:List Value).toArray}}:=I2.A6 (its:=[]) (t':=s2.toks) .nil (Nat.zero_le _)
 obtain⟨W,w0,turn⟩:=q s2.heap.objs.size I2.fresh
 have fne:∀b∈fp,b < s2.heap.objs.size:=fun b hb=>let⟨o,e,_⟩:=T.obj _ _ st2 b hb;Heap.lt_size e
 have f3:∀b∈fp,mF X pins (upd H2 s2.heap.objs.size (.lst [])) b:=fun b hb=>⟨by rw[bf (Nat.ne_of_lt (fne b hb))];exact(f2 b hb).1,(f2 b hb).2⟩
 generalize hs3:({s2 with heap:=s2.heap.push {cls:= .type "list",dict:=none,data:= .seq ([]:List Value).toArray}}:Shared)=s3 at I3 ⊢
 have st3:tn 0 s3.heap:=by rw[←hs3];exact T.keep _ _ _ st2 fun b _ o e=>Heap.get?_push_of_some _ e
 have fne3:∀b∈fp,b < s3.heap.objs.size:=fun b hb=>by rw[←hs3];exact Nat.lt_of_lt_of_le (fne b hb) (by rw[Heap.size_push];exact Nat.le_succ _)
 refine wpAny_newFunctionEnv (fun y hy=>C.nocell y hy) (by intro y hy;simp at hy) (fun h₁ hns₁ hsb₁=>?_) C.kind
 have hk:∀b o,s3.heap.get? b=some o→h₁.get? b=some o:=fun b o e=>hsb₁.extBut b o (Nat.ne_of_lt (Heap.lt_size e)) (Heap.get?_push_of_some _ e)
 refine sr (D:=s2.heap.objs.size) hc C I3 f3 fne3 T (hg fp s3 _) (hif fp s3 _) (he fp s3 _) hns₁ hk st3 W w0 turn fun H' s' σ' J' hq=>?_
 have B:=oy I3 f3 J'
 obtain⟨m',hm',_⟩:=J'.loc
 refine⟨m',hm',fun h' sb=>⟨.ref s2.heap.objs.size,H',?_,rfl,hq⟩⟩
 have fC:=I3.oV (H':=H') (b:=s3.heap.objs.size) (Nat.le_refl _) J'.free
 exact B.turned (it:=s3.heap.objs.size) (t':=s'.toks) (fun b o hb e=>(sb.2 b hb).trans e) fC.1 fC.2.1 fC.2.2.2.1 fC.2.2.2.2.1 fC.2.2.2.2.2
theorem tL{i:Nat}{x:Str}{pos' spos:Pos}(hc:X.calm=true)(hN:X.N.Nodup)(hx:X.N[i]? =some x)(hxl:X.env.scope.names.lookup x=some .local)(C:b_ X scope own kp kn)(hi:PI X tg iter wi)
 (hg:∀fp s H,PG (bu X scope (own++kn) fp s H) tg g) (hif:∀fp s H,mO (bu X scope (own++kn) fp s H) ifs tc)
 (he:∀fp s H,PE (bu X scope (own++kn) fp s H) elt te)
 (hsw:swapsWith (.ListComp elt [⟨tg,iter,ifs,0⟩] scope pos) (some (.Name x pos')) spos.line X.env=pure true:=by rfl)
 (hs:∀x,foldedSetIterable iter X.env x=pure x:=by intro _;rfl) :
 PS X (.Assign [.Name x pos'] (.ListComp elt [⟨tg,iter,ifs,0⟩] scope pos) spos) (yr (uM wi g tc te own kp) (p8 i)):=by
 intro pins s σ H D I h
 rw[exec_Assign_Name_used _ _ _ _ hsw]
 refine wpAny_bind (wpAny_standAt (wpAny_bind ?_))
 show wpAny _ X.A (do let _ ←comprehension (.ListComp elt [⟨tg,iter,ifs,0⟩] scope pos) scope X.env _ (newList []) false (eval iter X.env) (some (assign (.Name x pos') X.env))) _ _ s
 refine wpAny_bind (wpAny_mono (wpAny_comprehension_free (use:=some (assign (.Name x pos') X.env)) (Q:=fun _ s'=>SP X pins D .next s') rfl hs (jh (kQ C I)) C.kind C.nd
  (dg (hi pins s σ H _ I h) fun v s1 h1=>dg h1 fun itv s2 h2=>?_)) (fun _ s' hq=>wpAny_pure (wpAny_pure hq)) fun _ _ e=>e)
 obtain⟨it,fp,tn,J,H2,e,I2,T,st2,f2,q⟩:=h2
 subst e
 refine wpAny_newObj_type ?_
 have I3:Inv X pins σ (upd H2 s2.heap.objs.size (.lst [])) {s2 with heap:=s2.heap.push {cls:= .type "list",dict:=none,data:= .seq ([]:List Value).toArray}}:=I2.A6 (its:=[]) (t':=s2.toks) .nil (Nat.zero_le _)
 obtain⟨W,w0,turn⟩:=q s2.heap.objs.size I2.fresh
 have fne:∀b∈fp,b < s2.heap.objs.size:=fun b hb=>let⟨o,e,_⟩:=T.obj _ _ st2 b hb;Heap.lt_size e
 have f3:∀b∈fp,mF X pins (upd H2 s2.heap.objs.size (.lst [])) b:=fun b hb=>⟨by rw[bf (Nat.ne_of_lt (fne b hb))];exact(f2 b hb).1,(f2 b hb).2⟩
 generalize hs3:({s2 with heap:=s2.heap.push {cls:= .type "list",dict:=none,data:= .seq ([]:List Value).toArray}}:Shared)=s3 at I3 ⊢
 have st3:tn 0 s3.heap:=by rw[←hs3];exact T.keep _ _ _ st2 fun b _ o e=>Heap.get?_push_of_some _ e
 have fne3:∀b∈fp,b < s3.heap.objs.size:=fun b hb=>by rw[←hs3];exact Nat.lt_of_lt_of_le (fne b hb) (by rw[Heap.size_push];exact Nat.le_succ _)
 refine wpAny_newFunctionEnv (fun y hy=>C.nocell y hy) (by intro y hy;simp at hy) (fun h₁ hns₁ hsb₁=>?_) C.kind
 have hk:∀b o,s3.heap.get? b=some o→h₁.get? b=some o:=fun b o e=>hsb₁.extBut b o (Nat.ne_of_lt (Heap.lt_size e)) (Heap.get?_push_of_some _ e)
 refine sr (Q:=fun x H1=>p8 i x σ H1 D.nx) (D:=s2.heap.objs.size) hc C I3 f3 fne3 T (hg fp s3 _) (hif fp s3 _) (he fp s3 _) hns₁ hk st3 W w0 turn fun H' s' σ' J' hq=>?_
 have B:=oy I3 f3 J'
 obtain⟨m',hm',_⟩:=J'.loc
 have fC:=I3.oV (H':=H') (b:=s3.heap.objs.size) (Nat.le_refl _) J'.free
 show wpAny _ X.A (assign (.Name x pos') X.env (.ref s2.heap.objs.size)) _ _ s'
 refine wpAny_assign_Name (o_ B hN hx (.inl hxl) (v:= .ref s2.heap.objs.size) rfl (fun s4 I4 ⟨a,sb,ha⟩=>?_) (.inr hxl))
 have ha':s3.heap.objs.size≠a:=by
  rcases ha with rfl | z
  ·exact fC.2.1
  ·exact fun e=>fC.2.2.2.2.1 x a z e.symm
 refine⟨m',hm'.sameBut sb ha',fun h' sb'=>⟨_,H',?_,hq⟩⟩
 exact I4.turned (it:=s3.heap.objs.size) (t':=s4.toks) (fun b o hb e=>(sb'.2 b hb).trans e) fC.1 fC.2.1 fC.2.2.2.1 fC.2.2.2.2.1 fC.2.2.2.2.2
end
end L2
end
section
set_option maxRecDepth 100000
set_option maxHeartbeats 4000000
namespace L2
open PySem PySem.Spec PyProof.Rows
inductive D where
 | cD | bl (b:Bool) | int (i:Int) | str (x:Str) | lst (ds:List D) | tup (ds:List D) | dct (ks:List Key) (ds:List D)
inductive R (α:Type) where
 | ok (a:α) | ex (c:Nat) | no
noncomputable def R.bind{α β:Type}:R α→(α→R β)→R β
 | .ok a,f=>f a
 | .ex c,_=> .ex c
 | .no,_=> .no
theorem R.ak{α β:Type}{r:R α}{f:α→R β}{b:β}(h:r.bind f= .ok b):∃a,r= .ok a∧f a= .ok b:=by
 cases r with
 | ok a=>exact⟨a,rfl,h⟩
 | ex c=>cases h
 | no=>cases h
@[simp] theorem R.aS{α β:Type}(a:α)(f:α→R β):(R.ok a).bind f=f a:=rfl
noncomputable def R.bF{α:Type}(c:Bool)(r:R α):R α:=if c then r else .no
theorem R.ba{α:Type}{c:Bool}{r:R α}{a:α}(h:R.bF c r= .ok a):c=true∧r= .ok a:=by
 cases c with
 | true=>exact⟨rfl,h⟩
 | false=>cases h
@[simp] theorem R.eD{α:Type}(r:R α):R.bF true r=r:=rfl
noncomputable def m5(K:PySem.W.Frag)(B:List Addr)(H:Hp)(a:Addr)(xs:List V):Prop:=
 (a ∉ B∧Rd H a (.lst xs))∨∃(its:List Value) (n:Nat),K.lookup a=some {cls:= .type "list",data:= .seq its.toArray n}∧xs.length≤sizeLine∧Vals xs its
noncomputable def qB(K:PySem.W.Frag)(B:List Addr)(H:Hp)(a:Addr)(xs:List V):Prop:=
 (a ∉ B∧Rd H a (.tup xs))∨∃(o:Obj) (its:Array Value) (n:Nat),K.lookup a=some o∧o.cls= .type "tuple"∧o.data= .seq its n∧its.size≤sizeLine∧Vals xs its.toList
theorem m5.sq{K:PySem.W.Frag}{B:List Addr}{H:Hp}{a:Addr}{xs:List V}(h:m5 K B H a xs):k3 K H a xs:=by
 rcases h with z | ⟨its,n,hk,hz,r⟩
 ·exact .inl z.2
 ·exact .inr ⟨_,its.toArray,n,hk,rfl,rfl,rfl,by rw[List.size_toArray,←r.length];exact hz,by simpa using r⟩
theorem qB.sq{K:PySem.W.Frag}{B:List Addr}{H:Hp}{a:Addr}{xs:List V}(h:qB K B H a xs):mz K H a xs:=h.elim (fun z=> .inl z.2) .inr
mutual
noncomputable def Rep(K:PySem.W.Frag)(B:List Addr)(H:Hp):D→V→Prop
 | .cD,v=>v= .cD
 | .bl b,v=>v= .bl b
 | .int i,v=>v= .int i
 | .str x,v=>v= .str x
 | .lst ds,v=>∃a xs,v= .ref a∧m5 K B H a xs∧aC K B H ds xs
 | .tup ds,v=>∃a xs,v= .ref a∧qB K B H a xs∧aC K B H ds xs
 | .dct ks ds,v=>∃(a:Addr) (kvs:List (Key × V)),v= .ref a∧(a ∉ B∧H a=some (.dK kvs))∧kvs.map (·.1)=ks∧aC K B H ds (kvs.map (·.2))
noncomputable def aC(K:PySem.W.Frag)(B:List Addr)(H:Hp):List D→List V→Prop
 | [],xs=>xs=[]
 | d ::ds,xs=>∃x r,xs=x ::r∧Rep K B H d x∧aC K B H ds r
end
noncomputable def d6(B:List Addr)(H:Hp)(B':List Addr)(H':Hp):Prop:=∀b o,H b=some o→b ∉ B→H' b=some o∧b ∉ B'
theorem d6.rd{B B':List Addr}{H H':Hp}(p:d6 B H B' H'){a:Addr}{u:HO}(h:Rd H a u)(n:a ∉ B):Rd H' a u∧a ∉ B':=by
 rcases h with e | ⟨o,e⟩
 ·exact⟨.inl (p a _ e n).1,(p a _ e n).2⟩
 ·exact⟨.inr ⟨o,(p a _ e n).1⟩,(p a _ e n).2⟩
theorem d6.trans{B B' B'':List Addr}{H H' H'':Hp}(p:d6 B H B' H')(q:d6 B' H' B'' H''):d6 B H B'' H'':=fun b o e n=>
 let⟨e1,n1⟩:=p b o e n;q b o e1 n1
theorem d6.same{B:List Addr}{H H':Hp}(s:aN H H'):d6 B H B H':=fun b o e n=>⟨s b o e,n⟩
theorem d6.refl(B:List Addr)(H:Hp):d6 B H B H:=d6.same (aN.refl H)
theorem m5.bg{K:PySem.W.Frag}{B B':List Addr}{H H':Hp}(p:d6 B H B' H'){a:Addr}{xs:List V}(l:m5 K B H a xs):m5 K B' H' a xs:=
 l.elim (fun z=> .inl ⟨(p.rd z.2 z.1).2,(p.rd z.2 z.1).1⟩) .inr
mutual
theorem Rep.bg{K:PySem.W.Frag}{B B':List Addr}{H H':Hp}(p:d6 B H B' H'):∀{d:D} {v:V},Rep K B H d v→Rep K B' H' d v
 | .cD,_,h=>h
 | .bl _,_,h=>h
 | .int _,_,h=>h
 | .str _,_,h=>h
 | .lst ds,v,h=>by
   unfold Rep at h ⊢
   obtain⟨a,xs,e,l,r⟩:=h
   exact⟨a,xs,e,l.bg p,aC.bg p r⟩
 | .tup ds,v,h=>by
   unfold Rep at h ⊢
   obtain⟨a,xs,e,l,r⟩:=h
   exact⟨a,xs,e,l.elim (fun z=> .inl ⟨(p.rd z.2 z.1).2,(p.rd z.2 z.1).1⟩) .inr,aC.bg p r⟩
 | .dct ks ds,v,h=>by
   unfold Rep at h ⊢
   obtain⟨a,kvs,e,⟨n,l⟩,k,r⟩:=h
   exact⟨a,kvs,e,⟨(p a _ l n).2,(p a _ l n).1⟩,k,aC.bg p r⟩
theorem aC.bg{K:PySem.W.Frag}{B B':List Addr}{H H':Hp}(p:d6 B H B' H'):∀{ds:List D} {xs:List V},aC K B H ds xs→aC K B' H' ds xs
 | [],_,h=>h
 | d ::ds,xs,h=>by
   unfold aC at h ⊢
   obtain⟨x,r,e,h1,h2⟩:=h
   exact⟨x,r,e,Rep.bg p h1,aC.bg p h2⟩
end
theorem Rep.same{K:PySem.W.Frag}{B:List Addr}{H H':Hp}{d:D}{v:V}(h:Rep K B H d v)(s:aN H H'):Rep K B H' d v:=h.bg (d6.same s)
theorem aC.same{K:PySem.W.Frag}{B:List Addr}{H H':Hp}{d:List D}{v:List V}(h:aC K B H d v)(s:aN H H'):aC K B H' d v:=h.bg (d6.same s)
theorem aC.nil{K:PySem.W.Frag}{B:List Addr}{H:Hp}:aC K B H [] []:=by unfold aC;rfl
theorem aC.cons{K:PySem.W.Frag}{B:List Addr}{H:Hp}{d:D}{ds:List D}{x:V}{xs:List V}(h:Rep K B H d x)(t:aC K B H ds xs):aC K B H (d ::ds) (x ::xs):=by
 unfold aC;exact⟨x,xs,rfl,h,t⟩
theorem aC.bU{K:PySem.W.Frag}{B:List Addr}{H:Hp}{d:D}{ds:List D}{xs:List V}(h:aC K B H (d ::ds) xs):∃x r,xs=x ::r∧Rep K B H d x∧aC K B H ds r:=by
 unfold aC at h;exact h
theorem aC.length{K:PySem.W.Frag}{B:List Addr}{H:Hp}:∀{ds:List D} {xs:List V},aC K B H ds xs→ds.length=xs.length
 | [],_,h=>by unfold aC at h;rw [h];rfl
 | d ::ds,xs,h=>by
   obtain⟨x,r,rfl,_,h2⟩:=h.bU
   simp [h2.length]
theorem aC.get{K:PySem.W.Frag}{B:List Addr}{H:Hp}:∀{ds:List D} {xs:List V} {i:Nat} {d:D},aC K B H ds xs→ds[i]? =some d→∃x,xs[i]? =some x∧Rep K B H d x
 | [],_,_,_,_,e=>by simp at e
 | d ::ds,xs,0,d',h,e=>by
   obtain⟨x,r,rfl,h1,h2⟩:=h.bU
   simp at e;subst e
   exact⟨x,rfl,h1⟩
 | d ::ds,xs,i+1,d',h,e=>by
   obtain⟨x,r,rfl,h1,h2⟩:=h.bU
   obtain⟨y,e1,e2⟩:=aC.get (i:=i) h2 (by simpa using e)
   exact⟨y,by simpa using e1,e2⟩
theorem aC.append{K:PySem.W.Frag}{B:List Addr}{H:Hp}:∀{ds es:List D} {xs ys:List V},aC K B H ds xs→aC K B H es ys→aC K B H (ds++es) (xs++ys)
 | [],_,_,_,h,t=>by unfold aC at h;subst h;exact t
 | d ::ds,es,xs,ys,h,t=>by
   obtain⟨x,r,rfl,h1,h2⟩:=h.bU
   exact aC.cons h1 (aC.append h2 t)
theorem aC.drop{K:PySem.W.Frag}{B:List Addr}{H:Hp}:∀{ds:List D} {xs:List V} (n:Nat),aC K B H ds xs→aC K B H (ds.drop n) (xs.drop n)
 | _,_,0,h=>h
 | [],_,n+1,h=>by unfold aC at h;subst h;exact aC.nil
 | d ::ds,xs,n+1,h=>by
   obtain⟨x,r,rfl,h1,h2⟩:=h.bU
   exact aC.drop n h2
theorem aC.take{K:PySem.W.Frag}{B:List Addr}{H:Hp}:∀{ds:List D} {xs:List V} (n:Nat),aC K B H ds xs→aC K B H (ds.take n) (xs.take n)
 | _,_,0,h=>aC.nil
 | [],_,n+1,h=>by unfold aC at h;subst h;exact aC.nil
 | d ::ds,xs,n+1,h=>by
   obtain⟨x,r,rfl,h1,h2⟩:=h.bU
   exact aC.cons h1 (aC.take n h2)
noncomputable def D.atom:D→Bool
 | .cD=>true | .bl _=>true | .int _=>true | .str _=>true | _=>false
theorem Rep.atom{K:PySem.W.Frag}{B B':List Addr}{H H':Hp}{d:D}{v:V}(a:d.atom=true)(h:Rep K B H d v):Rep K B' H' d v:=by
 cases d <;> first | exact h | cases a
inductive Sl where
 | un | val (d:D) | bld (ds:List D)
noncomputable abbrev aw:=List Sl
structure fw (K:PySem.W.Frag) (Z B:List Addr) (H:Hp) (σ:St) (δ:aw):Prop where
 len:δ.length=σ.length
 bs:∀a∈B,∃o,H a=some o
 zb:∀a∈Z,a∈B
 val:∀(i:Nat) (d:D),δ[i]? =some (.val d)→∃v,σ[i]? =some (some v)∧Rep K B H d v
 bld:∀(i:Nat) (ds:List D),δ[i]? =some (.bld ds)→∃a xs,σ[i]? =some (some (.ref a))∧a∈B∧a ∉ Z∧H a=some (.lst xs)∧aC K B H ds xs
 dis:∀(i j:Nat) (a:Addr) (ds es:List D),δ[i]? =some (.bld ds)→δ[j]? =some (.bld es)→σ[i]? =some (some (.ref a))→σ[j]? =some (some (.ref a))→i=j
theorem fw.same{K:PySem.W.Frag}{Z B:List Addr}{H H':Hp}{σ:St}{δ:aw}(E:fw K Z B H σ δ)(s:aN H H'):fw K Z B H' σ δ where
 len:=E.len
 bs:=fun a ha=>let⟨o,e⟩:=E.bs a ha;⟨o,s a o e⟩
 zb:=E.zb
 val:=fun i d e=>let⟨v,h1,h2⟩:=E.val i d e;⟨v,h1,h2.same s⟩
 bld:=fun i ds e=>let⟨a,xs,h1,h2,h3,h4,h5⟩:=E.bld i ds e;⟨a,xs,h1,h2,h3,s a _ h4,h5.same s⟩
 dis:=E.dis
noncomputable def oI(δ:aw):aw:=δ.map fun x=>match x with | .bld ds=> .val (.lst ds) | y=>y
theorem PE.imp{X:Cx}{e:Expr}{t t':TE}(h:PE X e t)(w:∀σ H Q,t' σ H Q→t σ H Q):PE X e t':=fun pins s σ H Q I hq=>h pins s σ H Q I (w σ H Q hq)
theorem PT.imp{X:Cx}{e:Expr}{t t':TT}(h:PT X e t)(w:∀σ H Q,t' σ H Q→t σ H Q):PT X e t':=fun pins s σ H Q I hq=>h pins s σ H Q I (w σ H Q hq)
theorem PA.imp{X:Cx}{e:List Expr}{t t':TA}(h:PA X e t)(w:∀σ H Q,t' σ H Q→t σ H Q):PA X e t':=fun pos pins s σ H Q I hq=>h pos pins s σ H Q I (w σ H Q hq)
theorem PS.imp{X:Cx}{e:Stmt}{t t':TS}(h:PS X e t)(w:∀D σ H,t' D σ H→t D σ H):PS X e t':=fun pins s σ H D I hq=>h pins s σ H D I (w D σ H hq)
theorem qS.imp{X:Cx}{e:List Stmt}{t t':TS}(h:qS X e t)(w:∀D σ H,t' D σ H→t D σ H):qS X e t':=fun pins s σ H D I hq=>h pins s σ H D I (w D σ H hq)
theorem PG.imp{X:Cx}{e:Expr}{t t':TG}(h:PG X e t)(w:∀v σ H Q,t' v σ H Q→t v σ H Q):PG X e t':=fun pins s σ H v u Q I r hq=>h pins s σ H v u Q I r (w v σ H Q hq)
theorem PI.imp{X:Cx}{tg e:Expr}{t t':TI}(h:PI X tg e t)(w:∀σ H Q,t' σ H Q→t σ H Q):PI X tg e t':=fun pins s σ H Q I hq=>h pins s σ H Q I (w σ H Q hq)
noncomputable abbrev FD:=aw→R D
noncomputable def tD(K:PySem.W.Frag)(f:FD):TE:=fun σ H Q=>∃Z B δ d,fw K Z B H σ δ∧f δ= .ok d∧∀v H',aN H H'→Rep K B H' d v→Q v H'
noncomputable def tN(K:PySem.W.Frag)(f:aw→R (List D)):TE:=fun σ H Q=>∃Z B δ ds,fw K Z B H σ δ∧f δ= .ok ds∧∀a xs H',aN H H'→H a=none→H' a=some (.lst xs)→aC K (a ::B) H' ds xs→Q (.ref a) H'
noncomputable def D8(K:PySem.W.Frag)(f:aw→R Bool):TT:=fun σ H Q=>∃Z B δ b,fw K Z B H σ δ∧f δ= .ok b∧∀H',aN H H'→Q b H'
noncomputable def Hy(K:PySem.W.Frag)(f:aw→R (List D)):TA:=fun σ H Q=>∃Z B δ ds,fw K Z B H σ δ∧f δ= .ok ds∧∀vs H',aN H H'→aC K B H' ds vs→Q vs H'
noncomputable abbrev PD(X:Cx)(e:Expr)(f:FD):Prop:=PE X e (tD X.K f)
noncomputable abbrev PN(X:Cx)(e:Expr)(f:aw→R (List D)):Prop:=PE X e (tN X.K f)
noncomputable abbrev PB(X:Cx)(e:Expr)(f:aw→R Bool):Prop:=PT X e (D8 X.K f)
noncomputable abbrev xt(X:Cx)(es:List Expr)(f:aw→R (List D)):Prop:=PA X es (Hy X.K f)
section
variable {X:Cx}
noncomputable def eNew(f:aw→R (List D)):FD:=fun δ=>(f δ).bind fun ds=> .ok (.lst ds)
theorem CO{e:Expr}{f:aw→R (List D)}(h:PN X e f):PD X e (eNew f):=h.imp fun σ H Q ⟨Z,B,δ,d,E,hf,q⟩=>by
 obtain⟨ds,h1,h2⟩:=R.ak hf
 cases h2
 refine⟨Z,B,δ,ds,E,h1,fun a xs H' s n e r=>q _ H' s ?_⟩
 unfold Rep
 refine⟨a,xs,rfl, .inl ⟨fun ha=>?_, .inl e⟩,r.bg fun b o e nb=>⟨e,fun hb=>nb (List.mem_cons_of_mem _ hb)⟩⟩
 obtain⟨o,ho⟩:=E.bs a ha
 rw[n] at ho;cases ho
theorem sj{B:List Addr}{H:Hp}{p:Addr}{o:HO}(h:H p=none):d6 B H (p ::B) (upd H p o):=fun b u e nb=>
 ⟨by rw[bf (bK e h)];exact e,fun hb=>by
   rcases List.mem_cons.mp hb with z | z
   ·exact bK e h z
   ·exact nb z⟩
noncomputable def lY(f:FD):FD:=fun δ=>(f (oI δ)).bind fun d=>R.bF d.atom (.ok d)
noncomputable def lW(f:aw→R Bool):aw→R Bool:=fun δ=>f (oI δ)
noncomputable def ai(i:Nat):FD:=fun δ=>match δ[i]? with | some (.val d)=> .ok d | _=> .no
noncomputable def eC(d:D):FD:=fun _=> .ok d
theorem De(i:Nat){x:Str}{pos:Pos}(hN:X.N[i]? =some x:=by rfl)(hv:D9 X.env.scope x:=by first | exact Or.inl rfl | exact Or.inr (Or.inl rfl) | exact Or.inr (Or.inr rfl))(hd:(x==("__debug__":Str))=false:=by decide)
 (hcd:(x==("__classdict__":Str))=false:=by decide):PD X (.Name x pos) (ai i):=(tS hN hv hd hcd).imp fun σ H Q ⟨Z,B,δ,d,E,hf,q⟩=>by
 unfold ai at hf
 split at hf
 ·rename_i d' e
  cases hf
  obtain⟨v,h1,h2⟩:=E.val i d e
  exact⟨v,h1,q v H (aN.refl H) h2⟩
 ·cases hf
theorem kT{e:Expr}{v:V}{d:D}(h:PE X e (tC v))(r:∀B H,Rep X.K B H d v):PD X e (eC d):=h.imp fun σ H Q ⟨Z,B,δ,d',E,hf,q⟩=>by
 cases hf
 exact q v H (aN.refl H) (r B H)
theorem Dg{i j pos}:PD X (.Constant (.int i) j pos) (eC (.int i)):=kT nV fun _ _=>by unfold Rep;rfl
theorem EY{b j pos}:PD X (.Constant (.bool b) j pos) (eC (.bl b)):=kT FW fun _ _=>by unfold Rep;rfl
theorem Ce{j pos}:PD X (.Constant .none j pos) (eC .cD):=kT DS fun _ _=>by unfold Rep;rfl
theorem DZ{x j pos}:PD X (.Constant (.str x) j pos) (eC (.str x)):=kT oi fun _ _=>by unfold Rep;rfl
noncomputable def Glob(K:PySem.W.Frag)(mg:Str→Option Value)(x:Str)(d:D):Prop:=∃(u:Value) (v:V),mg x=some u∧RelV v u∧∀B H,Rep K B H d v
noncomputable def aI:aw→R (List D):=fun _=> .ok []
noncomputable def au(f:FD)(g:aw→R (List D)):aw→R (List D):=fun δ=>(f δ).bind fun d=>(g δ).bind fun ds=> .ok (d ::ds)
theorem Bw:xt X [] aI:=g9.imp fun σ H Q ⟨Z,B,δ,d,E,hf,q⟩=>by
 cases hf
 exact q [] H (aN.refl H) aC.nil
theorem zu{e:Expr}{es:List Expr}{f:FD}{g:aw→R (List D)}(h:PD X e f)(t:xt X es g)(hs:starEach (e ::es) X.env=(false,eval e X.env) ::starEach es X.env:=by rfl):xt X (e ::es) (au f g):=
 (eU h t hs).imp fun σ H Q ⟨Z,B,δ,d,E,hf,q⟩=>by
   obtain⟨d1,h1,h2⟩:=R.ak hf
   obtain⟨ds,h3,h4⟩:=R.ak h2
   cases h4
   exact⟨Z,B,δ,d1,E,h1,fun v H1 s1 r1=>⟨Z,B,δ,ds,E.same s1,h3,fun vs H2 s2 r2=>q _ H2 (s1.trans s2) (aC.cons (r1.same s2) r2)⟩⟩
noncomputable def dv(g:aw→R (List D)):FD:=fun δ=>(g δ).bind fun ds=>R.bF (decide (ds.length≤sizeLine)) (.ok (.tup ds))
noncomputable def dE(g:aw→R (List D)):aw→R (List D):=fun δ=>(g δ).bind fun ds=>R.bF (decide (ds.length≤sizeLine)) (.ok ds)
theorem a0{H:Hp}{p:Addr}{o:HO}(h:H p=none):aN H (upd H p o):=fun b u e=>by rw[bf (bK e h)];exact e
theorem Ck{es:List Expr}{g:aw→R (List D)}{x1 pos}(h:xt X es g):PD X (.Tuple es x1 pos) (dv g):=(yo h).imp fun σ H Q ⟨Z,B,δ,d,E,hf,q⟩=>by
 obtain⟨ds,h1,h2⟩:=R.ak hf
 obtain⟨hl,h3⟩:=R.ba h2
 cases h3
 refine⟨Z,B,δ,ds,E,h1,fun vs H1 s1 r1=>⟨by rw[←r1.length];exact of_decide_eq_true hl,fun p hp=>q _ _ (s1.trans (a0 hp)) ?_⟩⟩
 unfold Rep
 refine⟨p,vs,rfl, .inl ⟨fun ha=>?_, .inl bc⟩,r1.same (a0 hp)⟩
 obtain⟨o,ho⟩:=(E.same s1).bs p ha
 rw[hp] at ho;cases ho
theorem D0{es:List Expr}{g:aw→R (List D)}{pos}(h:xt X es g):PN X (.List es pos) (dE g):=(yA h).imp fun σ H Q ⟨Z,B,δ,d,E,hf,q⟩=>by
 obtain⟨ds,h1,h2⟩:=R.ak hf
 obtain⟨hl,h3⟩:=R.ba h2
 cases h3
 exact⟨Z,B,δ,_,E,h1,fun vs H1 s1 r1=>⟨by rw[←r1.length];exact of_decide_eq_true hl,fun p hp=>q p vs _ (s1.trans (a0 hp)) (s1.free hp) bc (r1.bg (sj hp))⟩⟩
noncomputable def iM(X:Cx)(f:Value→Value→Sem Value)(g:D→D→R D):Prop:=
 ∀(pins:List (Addr × Obj)) (s:Shared) (σ:St) (H:Hp) (B:List Addr) (da db d:D) (x y:V) (v u:Value),Inv X pins σ H s→(∀a∈B,∃o,H a=some o)→RelV x v→RelV y u→Rep X.K B H da x→Rep X.K B H db y→g da db= .ok d→
  wpAny (model X.prog X.w) X.A (f v u) (EP X pins σ fun z H'=>aN H H'∧Rep X.K B H' d z) X.xe s
noncomputable def e2(g:D→D→R D)(fa fb:FD):FD:=fun δ=>(fa δ).bind fun a=>(fb δ).bind fun b=>g a b
theorem iM.r{f:Value→Value→Sem Value}{g:D→D→R D}(h:iM X f g):jD X f (fun x y H Q=>∃B da db d,(∀a∈B,∃o,H a=some o)∧Rep X.K B H da x∧Rep X.K B H db y∧g da db= .ok d∧∀z H',aN H H'→Rep X.K B H' d z→Q z H'):=by
 intro pins s σ H x y v u Q I rx ry ⟨B,da,db,d,hb,ha,hb',hg,q⟩
 exact dg (h pins s σ H B da db d x y v u I hb rx ry ha hb' hg) fun z s' ⟨zv,H',I',r',s1,r1⟩=>⟨zv,H',I',r',q zv H' s1 r1⟩
theorem CY{K:PySem.W.Frag}{g:D→D→R D}{fa fb:FD}{σ:St}{H:Hp}{Q:VK}(h:tD K (e2 g fa fb) σ H Q) :
 Eb (fun x y H Q=>∃B da db d,(∀a∈B,∃o,H a=some o)∧Rep K B H da x∧Rep K B H db y∧g da db= .ok d∧∀z H',aN H H'→Rep K B H' d z→Q z H') (tD K fa) (tD K fb) σ H Q:=by
 obtain⟨Z,B,δ,d,E,hf,q⟩:=h
 obtain⟨d1,h1,h2⟩:=R.ak hf
 obtain⟨d2,h3,h4⟩:=R.ak h2
 exact⟨Z,B,δ,d1,E,h1,fun v1 H1 s1 r1=>⟨Z,B,δ,d2,E.same s1,h3,fun v2 H2 s2 r2=>⟨B,d1,d2,d,(E.same (s1.trans s2)).bs,r1.same s2,r2,h4,fun z H' s3 r3=>q z H' (s1.trans (s2.trans s3)) r3⟩⟩⟩
theorem FV{op:Operator}{g:D→D→R D}{a b:Expr}{fa fb:FD}{pos:Pos}(ho:iM X (binaryOp op) g)(ha:PD X a fa)(hb:PD X b fb):PD X (.BinOp a op b pos) (e2 g fa fb):=
 (vq ho.r ha hb).imp fun σ H Q h=>CY h
theorem C8{op:CmpOp}{g:D→D→R D}{a b:Expr}{fa fb:FD}{pos:Pos}(ho:iM X (compareOp op) g)(ha:PD X a fa)(hb:PD X b fb)(hm:behindInMarks op b=false):PD X (.Compare a [op] [b] pos) (e2 g fa fb):=
 (uF ho.r ha hb hm).imp fun σ H Q h=>CY h
noncomputable def b2(g:D→D→R D)(fa fb:FD):aw→R Bool:=fun δ=>(e2 g fa fb δ).bind fun d=>match d with | .bl b=> .ok b | _=> .no
theorem B7{op:CmpOp}{g:D→D→R D}{a b:Expr}{fa fb:FD}{pos:Pos}(ho:iM X (compareOp op) g)(ha:PD X a fa)(hb:PD X b fb)(hm:behindInMarks op b=false):PB X (.Compare a [op] [b] pos) (b2 g fa fb):=
 (uX ho.r ha hb hm).imp fun σ H Q ⟨Z,B,δ,b,E,hf,q⟩=>by
   obtain⟨d,h1,h2⟩:=R.ak hf
   cases d with
   | bl k=>
     cases h2
     exact CY (g:=g) (Q:=fun x H'=>∃k,x= .bl k∧Q k H') ⟨Z,B,δ, .bl b,E,h1,fun v H' s r=>⟨b,by unfold Rep at r;exact r,q H' s⟩⟩
   | _=>cases h2
noncomputable def G7(g g':D→D→R D)(fa fb fc:FD):FD:=fun δ=>(fa δ).bind fun a=>(fb δ).bind fun b=>(g a b).bind fun r=>match r with
 | .bl true=>(fc δ).bind fun c=>g' b c
 | .bl false=> .ok (.bl false)
 | _=> .no
noncomputable def oa:D→R Bool
 | .cD=> .ok false
 | .bl b=> .ok b
 | .int i=> .ok (i !=0)
 | .str x=>R.bF (decide (x.length≤sizeLine)) (.ok ((x.length:Int) !=0))
 | .lst ds=> .ok (!ds.isEmpty)
 | .tup ds=> .ok (!ds.isEmpty)
 | .dct _ _=> .no
noncomputable def oC(f:FD):aw→R Bool:=fun δ=>(f δ).bind oa
theorem aC.isEmpty{K:PySem.W.Frag}{B:List Addr}{H:Hp}{ds:List D}{xs:List V}(h:aC K B H ds xs):ds.isEmpty=xs.isEmpty:=by
 have:=h.length
 cases ds <;> cases xs <;> simp_all
theorem D3{K:PySem.W.Frag}{B:List Addr}{H:Hp}{d:D}{v:V}{b:Bool}(r:Rep K B H d v)(h:oa d= .ok b):C6 K v H b:=by
 cases d with
 | cD=>unfold Rep at r;subst r;cases h;exact rfl
 | bl k=>unfold Rep at r;subst r;cases h;exact rfl
 | int i=>unfold Rep at r;subst r;cases h;exact rfl
 | str x=>unfold Rep at r;subst r;obtain⟨h1,h2⟩:=R.ba h;cases h2;exact⟨of_decide_eq_true h1,rfl⟩
 | lst ds=>unfold Rep at r;obtain⟨a,xs,rfl,l,r⟩:=r;cases h;exact .inl ⟨xs,l.sq,by rw[r.isEmpty]⟩
 | tup ds=>unfold Rep at r;obtain⟨a,xs,rfl,l,r⟩:=r;cases h;exact .inr (.inl ⟨xs,l.sq,by rw[r.isEmpty]⟩)
 | dct _ _=>cases h
theorem DH{a:Expr}{f:FD}(ha:PD X a f)(he:∀whole,isTrue a X.env whole=(do let v ←whole;standAt a.pos;holding [v] (truthy v)):=by intro _;rfl):PB X a (oC f):=
 (xZ ha he).imp fun σ H Q ⟨Z,B,δ,b,E,hf,q⟩=>by
   obtain⟨d,h1,h2⟩:=R.ak hf
   exact⟨Z,B,δ,d,E,h1,fun v H' s r=>⟨b,D3 r h2,q H' s⟩⟩
noncomputable def kq(f g:aw→R Bool):aw→R Bool:=fun δ=>(f δ).bind fun b=>if b then g δ else .ok false
noncomputable def qR(f g:aw→R Bool):aw→R Bool:=fun δ=>(f δ).bind fun b=>if b then .ok true else g δ
noncomputable def nM(f:aw→R Bool):aw→R Bool:=fun δ=>(f δ).bind fun b=> .ok (!b)
noncomputable def zR(X:Cx)(e:Expr)(f:aw→R Bool):Prop:=PW X e (D8 X.K f)
theorem zR.pb{e:Expr}{f:aw→R Bool}(h:zR X e f):PB X e f:=PW.pt h
theorem y1{a:Expr}{f:aw→R Bool}{pos:Pos}(h:PB X a f):zR X (.BoolOp .And [a] pos) f:=uW h
theorem By{a:Expr}{f:aw→R Bool}{pos:Pos}(h:PB X a f):zR X (.BoolOp .Or [a] pos) f:=zt h
theorem Bb{a b:Expr}{rest:List Expr}{f g:aw→R Bool}{pos:Pos}(ha:PB X a f)(hb:zR X (.BoolOp .And (b ::rest) pos) g):zR X (.BoolOp .And (a ::b ::rest) pos) (kq f g):=by
 intro wh pins s σ H Q I ⟨Z,B,δ,k,E,hf,q⟩
 refine y3 ha hb wh pins s σ H Q I ?_
 obtain⟨c,h1,h2⟩:=R.ak hf
 refine⟨Z,B,δ,c,E,h1,fun H1 s1=>?_⟩
 cases c with
 | true=>rw [if_pos rfl] at h2 ⊢;exact⟨Z,B,δ,k,E.same s1,h2,fun H' s2=>q H' (s1.trans s2)⟩
 | false=>rw [if_neg (by decide)] at h2 ⊢;cases h2;exact q H1 s1
theorem CB{a b:Expr}{rest:List Expr}{f g:aw→R Bool}{pos:Pos}(ha:PB X a f)(hb:zR X (.BoolOp .Or (b ::rest) pos) g):zR X (.BoolOp .Or (a ::b ::rest) pos) (qR f g):=by
 intro wh pins s σ H Q I ⟨Z,B,δ,k,E,hf,q⟩
 refine BP ha hb wh pins s σ H Q I ?_
 obtain⟨c,h1,h2⟩:=R.ak hf
 refine⟨Z,B,δ,c,E,h1,fun H1 s1=>?_⟩
 cases c with
 | true=>rw [if_pos rfl] at h2 ⊢;cases h2;exact q H1 s1
 | false=>rw [if_neg (by decide)] at h2 ⊢;exact⟨Z,B,δ,k,E.same s1,h2,fun H' s2=>q H' (s1.trans s2)⟩
theorem C4{a:Expr}{f:aw→R Bool}{pos:Pos}(ha:PB X a f):PB X (.UnaryOp .Not a pos) (nM f):=(CG ha).imp fun σ H Q ⟨Z,B,δ,k,E,hf,q⟩=>by
 obtain⟨c,h1,h2⟩:=R.ak hf
 cases h2
 exact⟨Z,B,δ,c,E,h1,fun H1 s1=>q H1 s1⟩
noncomputable def zy(f:FD):aw→R Bool:=fun δ=>(f δ).bind fun d=>match d with | .bl b=> .ok b | _=> .no
noncomputable def rK(f g:FD):FD:=fun δ=>(zy f δ).bind fun b=>if b then g δ else .ok (.bl false)
noncomputable def BD(f g:FD):FD:=fun δ=>(zy f δ).bind fun b=>if b then .ok (.bl true) else g δ
noncomputable def rn(f:FD):FD:=fun δ=>(zy f δ).bind fun b=> .ok (.bl (!b))
noncomputable def tq(c:aw→R Bool)(f g:FD):FD:=fun δ=>(c δ).bind fun b=>if b then f δ else g δ
theorem EI{c a b:Expr}{fc:aw→R Bool}{f g:FD}{pos:Pos}(hc:PB X c fc)(ha:PD X a f)(hb:PD X b g):PD X (.IfExp c a b pos) (tq fc f g):=(xN hc ha hb).imp fun σ H Q ⟨Z,B,δ,k,E,hf,q⟩=>by
 obtain⟨c,h1,h2⟩:=R.ak hf
 refine⟨Z,B,δ,c,E,h1,fun H1 s1=>?_⟩
 cases c with
 | true=>rw [if_pos rfl] at h2 ⊢;exact⟨Z,B,δ,k,E.same s1,h2,fun v H' s2 r2=>q v H' (s1.trans s2) r2⟩
 | false=>rw [if_neg (by decide)] at h2 ⊢;exact⟨Z,B,δ,k,E.same s1,h2,fun v H' s2 r2=>q v H' (s1.trans s2) r2⟩
noncomputable def cL(X:Cx)(f:Value)(g:List D→R D):Prop:=
 ∀(pins:List (Addr × Obj)) (s:Shared) (σ:St) (H:Hp) (B:List Addr) (ds:List D) (d:D) (xs:List V) (us:List Value),Inv X pins σ H s→(∀a∈B,∃o,H a=some o)→Vals xs us→aC X.K B H ds xs→g ds= .ok d→
  wpAny (model X.prog X.w) X.A (call f us) (EP X pins σ fun z H'=>aN H H'∧Rep X.K B H' d z) X.xe s
noncomputable def aK(g:List D→R D)(fs:aw→R (List D)):FD:=fun δ=>(fs δ).bind g
theorem cL.r{f:Value}{g:List D→R D}(h:cL X f g):jq X f (fun xs H Q=>∃B ds d,(∀a∈B,∃o,H a=some o)∧aC X.K B H ds xs∧g ds= .ok d∧∀z H',aN H H'→Rep X.K B H' d z→Q z H'):=by
 intro pins s σ H xs us Q I rx ⟨B,ds,d,hb,hr,hg,q⟩
 exact dg (h pins s σ H B ds d xs us I hb rx hr hg) fun z s' ⟨zv,H',I',r',s1,r1⟩=>⟨zv,H',I',r',q zv H' s1 r1⟩
theorem uT{K:PySem.W.Frag}{g:List D→R D}{fs:aw→R (List D)}{σ:St}{H:Hp}{Q:VK}(h:tD K (aK g fs) σ H Q) :
 Hy K fs σ H fun vs H1=>∃B ds d,(∀a∈B,∃o,H1 a=some o)∧aC K B H1 ds vs∧g ds= .ok d∧∀z H',aN H1 H'→Rep K B H' d z→Q z H':=by
 obtain⟨Z,B,δ,d,E,hf,q⟩:=h
 obtain⟨ds,h1,h2⟩:=R.ak hf
 exact⟨Z,B,δ,ds,E,h1,fun vs H1 s1 r1=>⟨B,ds,d,(E.same s1).bs,r1,h2,fun z H' s2 r2=>q z H' (s1.trans s2) r2⟩⟩
theorem yP{g:List D→R D}{x:Str}{id:String}{p pos:Pos}{e:Expr}{es:List Expr}{fs:aw→R (List D)}(hc:cL X (.builtin id) g)(hg:Gl X x)(hm:X.mg x=none)(hv:bootBuiltins x=some (.builtin id))(ha:xt X (e ::es) fs)(hn:x≠"__name__":=by decide)(hdb:(x==("__debug__":Str))=false:=by decide)
 (he:starEach (e ::es) X.env=(false,eval e X.env) ::starEach es X.env:=by rfl) (hpl:(backTo pos (starEach es X.env)).any (·.1)=false:=by rfl):PD X (.Call (.Name x p) (e ::es) [] pos) (aK g fs):=
 (nO hc.r hg hm hv ha hn hdb he hpl).imp fun σ H Q h=>uT h
theorem wG{g:List D→R D}{x:Str}{T:String}{p pos:Pos}{e:Expr}{es:List Expr}{fs:aw→R (List D)}(hc:cL X (.type T) g)(hg:Gl X x)(hm:X.mg x=none)(hv:bootBuiltins x=some (.type T))(ha:xt X (e ::es) fs)(hn:x≠"__name__":=by decide)(hdb:(x==("__debug__":Str))=false:=by decide)
 (he:starEach (e ::es) X.env=(false,eval e X.env) ::starEach es X.env:=by rfl) (hpl:(backTo pos (starEach es X.env)).any (·.1)=false:=by rfl):PD X (.Call (.Name x p) (e ::es) [] pos) (aK g fs):=
 (wR hc.r hg hm hv ha hn hdb he hpl).imp fun σ H Q h=>uT h
noncomputable def zS(K:PySem.W.Frag)(n:Nat)(g:List D→R D):Sp:=fun vs H Q _=>vs.length=n∧∃B ds d,(∀a∈B,∃o,H a=some o)∧aC K B H ds vs∧g ds= .ok d∧∀z H',aN H H'→Rep K B H' d z→Q z H'
theorem Ax{g:List D→R D}{k n:Nat}{f:Addr}{fd:FuncData}{ps:List Str}{x:Str}{p pos:Pos}{e:Expr}{es:List Expr}{fs:aw→R (List D)}
 (F:gC X.prog X.w X.K X.mg X.base pP k f fd ps (zS X.K n g)) (hr:dG k X.A) (hg:Gl X x) (hm:X.mg x=some (.ref f)) (hk:PySem.W.keepIn X.K (.ref f)=true) (hb:Binds X.K fd ps []) (ha:xt X (e ::es) fs)
 (hn:∀δ ds,fs δ= .ok ds→ds.length=n) (hdb:(x==("__debug__":Str))=false:=by decide) (he:starEach (e ::es) X.env=(false,eval e X.env) ::starEach es X.env:=by rfl) (hpl:(backTo pos (starEach es X.env)).any (·.1)=false:=by rfl) :
 PD X (.Call (.Name x p) (e ::es) [] pos) (aK g fs):=
 (qc F hr hg hm hk hb .nil sJ ha hdb he hpl).imp fun σ H Q ⟨Z,B,δ,d,E,hf,q⟩=>by
   obtain⟨ds,h1,h2⟩:=R.ak hf
   refine⟨Z,B,δ,ds,E,h1,fun vs H1 s1 r1=>?_⟩
   show zS X.K n g (vs++[]) H1 Q E0
   rw[List.append_nil]
   exact⟨by rw[←r1.length];exact hn δ ds h1,B,ds,d,(E.same s1).bs,r1,h2,fun z H' s2 r2=>q z H' (s1.trans s2) r2⟩
end
end L2
end
section
set_option maxRecDepth 100000
set_option maxHeartbeats 4000000
namespace L2
open PySem PySem.Spec PyProof.Rows
inductive Out where
 | nx (δ:aw) | rt (d:D)
noncomputable abbrev FS:=aw→R Out
structure Ev (Z B:List Addr) (H:Hp) (B':List Addr) (H':Hp):Prop where
 bg:d6 B H B' H'
 zs:∀b o,H b=some o→b∈Z→H' b=some o∧b∈B'
theorem Ev.refl(Z B:List Addr)(H:Hp)(zb:∀a∈Z,a∈B):Ev Z B H B H:=⟨d6.refl B H,fun b o e z=>⟨e,zb b z⟩⟩
theorem Ev.trans{Z B B' B'':List Addr}{H H' H'':Hp}(a:Ev Z B H B' H')(b:Ev Z B' H' B'' H''):Ev Z B H B'' H'':=
 ⟨a.bg.trans b.bg,fun c o e z=>let⟨e1,_⟩:=a.zs c o e z;b.zs c o e1 z⟩
theorem Ev.same{Z B:List Addr}{H H':Hp}(zb:∀a∈Z,a∈B)(s:aN H H'):Ev Z B H B H':=⟨d6.same s,fun b o e z=>⟨s b o e,zb b z⟩⟩
noncomputable def u_(K:PySem.W.Frag)(Z B:List Addr)(H:Hp)(D:Ends):Out→Prop
 | .nx δ'=>∀σ' B' H',Ev Z B H B' H'→fw K Z B' H' σ' δ'→D.nx σ' H'
 | .rt d=>∀v B' H',Ev Z B H B' H'→(∀a∈Z,a∈B')→Rep K B' H' d v→D.rt v H'
theorem u_.ev{K:PySem.W.Frag}{Z B B1:List Addr}{H H1:Hp}{D:Ends}{o:Out}(q:u_ K Z B H D o)(ev:Ev Z B H B1 H1):u_ K Z B1 H1 D o:=by
 cases o with
 | nx δ'=>exact fun σ' B' H' ev' E'=>q σ' B' H' (ev.trans ev') E'
 | rt d=>exact fun v B' H' ev' z r=>q v B' H' (ev.trans ev') z r
noncomputable def sD(K:PySem.W.Frag)(F:FS):TS:=fun D σ H=>∃Z B δ o,fw K Z B H σ δ∧F δ= .ok o∧u_ K Z B H D o
noncomputable abbrev Dj(X:Cx)(st:Stmt)(F:FS):Prop:=PS X st (sD X.K F)
noncomputable abbrev oY(X:Cx)(st:List Stmt)(F:FS):Prop:=qS X st (sD X.K F)
section
variable {X:Cx}
noncomputable def i9:FS:=fun δ=> .ok (.nx δ)
noncomputable def eN(F G:FS):FS:=fun δ=>(F δ).bind fun o=>match o with | .nx δ'=>G δ' | .rt d=> .ok (.rt d)
theorem z9:oY X [] i9:=uV.imp fun D σ H ⟨Z,B,δ,o,E,hf,q⟩=>by
 cases hf
 exact q σ B H (Ev.refl Z B H E.zb) E
theorem D4{K:PySem.W.Frag}{F G:FS}{D:Ends}{σ:St}{H:Hp}(h:sD K (eN F G) D σ H):Ez (sD K F) (sD K G) D σ H:=by
 obtain⟨Z,B,δ,o,E,hf,q⟩:=h
 obtain⟨o1,h1,h2⟩:=R.ak hf
 refine⟨Z,B,δ,o1,E,h1,?_⟩
 cases o1 with
 | nx δ1=>
   intro σ1 B1 H1 ev E1
   refine⟨Z,B1,δ1,o,E1,h2,?_⟩
   cases o with
   | nx δ2=>exact fun σ' B' H' ev' E'=>q σ' B' H' (ev.trans ev') E'
   | rt d=>exact fun v B' H' ev' z r=>q v B' H' (ev.trans ev') z r
 | rt d=>
   cases h2
   exact q
theorem xR{st:Stmt}{rest:List Stmt}{F G:FS}(h1:Dj X st F)(h2:oY X rest G):oY X (st ::rest) (eN F G):=(rE h1 h2).imp fun D σ H h=>D4 h
theorem Bt{st:Stmt}{F:FS}(h1:Dj X st F):oY X [st] F:=vv h1
theorem fw.set{K:PySem.W.Frag}{Z B:List Addr}{H:Hp}{σ:St}{δ:aw}(E:fw K Z B H σ δ){i:Nat}{d:D}{v:V}(hi:i < σ.length)(r:Rep K B H d v):fw K Z B H (σ.set i (some v)) (δ.set i (.val d)) where
 len:=by rw[List.length_set,List.length_set];exact E.len
 bs:=E.bs
 zb:=E.zb
 val:=fun j d' e=>by
  by_cases h:i=j
  ·subst h
   rw[List.getElem?_set_self (by rw[E.len];exact hi)] at e
   cases e
   exact⟨v,List.getElem?_set_self hi,r⟩
  ·rw[List.getElem?_set_ne h] at e ⊢
   exact E.val j d' e
 bld:=fun j ds e=>by
  by_cases h:i=j
  ·subst h
   rw[List.getElem?_set_self (by rw[E.len];exact hi)] at e
   cases e
  ·rw[List.getElem?_set_ne h] at e ⊢
   exact E.bld j ds e
 dis:=fun j k a ds es e1 e2 e3 e4=>by
  by_cases h:i=j
  ·subst h
   rw[List.getElem?_set_self (by rw[E.len];exact hi)] at e1
   cases e1
  ·by_cases h':i=k
   ·subst h'
    rw[List.getElem?_set_self (by rw[E.len];exact hi)] at e2
    cases e2
   ·rw[List.getElem?_set_ne h] at e1 e3
    rw[List.getElem?_set_ne h'] at e2 e4
    exact E.dis j k a ds es e1 e2 e3 e4
noncomputable def iI(i:Nat)(f:FD):FS:=fun δ=>(f δ).bind fun d=>R.bF (decide (i < δ.length)) (.ok (.nx (δ.set i (.val d))))
theorem Dr{K:PySem.W.Frag}{i:Nat}{f:FD}{D:Ends}{σ:St}{H:Hp}(h:sD K (iI i f) D σ H):yr (tD K f) (p8 i) D σ H:=by
 obtain⟨Z,B,δ,o,E,hf,q⟩:=h
 obtain⟨d,h1,h2⟩:=R.ak hf
 obtain⟨hi,h3⟩:=R.ba h2
 cases h3
 refine⟨Z,B,δ,d,E,h1,fun v H1 s1 r1=>?_⟩
 exact q _ B H1 (Ev.same E.zb s1) ((E.same s1).set (by rw[←E.len];exact of_decide_eq_true hi) r1)
theorem Bh{i:Nat}{x:Str}{e:Expr}{f:FD}{pos pos':Pos}(hN:X.N.Nodup)(hi:X.N[i]? =some x)(hx:Loc X.env.scope x)(he:PD X e f)(hs:swapsWith e (some (.Name x pos')) pos.line X.env=pure false:=by rfl)(hf:X.fn x=true∨X.env.scope.names.lookup x=some .local:=by first | exact .inl rfl | exact .inr rfl | assumption) :
 Dj X (.Assign [.Name x pos'] e pos) (iI i f):=(yC hN hi hx he hs hf).imp fun D σ H h=>Dr h
noncomputable def sG(i:Nat)(f:aw→R (List D)):FS:=fun δ=>(f δ).bind fun ds=>R.bF (decide (i < δ.length)) (.ok (.nx (δ.set i (.bld ds))))
noncomputable def jB(δ:aw)(i:Nat):R (List D):=match δ[i]? with | some (.bld ds)=> .ok ds | _=> .no
noncomputable def rZ(i:Nat)(f:FD):FS:=fun δ=>(f δ).bind fun d=>(jB δ i).bind fun ds=>R.bF (decide (ds.length < sizeLine)) (.ok (.nx (δ.set i (.bld (ds++[d])))))
noncomputable def rg(i:Nat)(f:aw→R (List D)):FS:=fun δ=>(f δ).bind fun es=>(jB δ i).bind fun ds=>R.bF (decide (ds.length+es.length≤sizeLine)) (.ok (.nx (δ.set i (.bld (ds++es)))))
noncomputable def g6(i:Nat)(δ:aw):aw:=match δ[i]? with | some (.bld ds)=>δ.set i (.val (.lst ds)) | _=>δ
noncomputable def rL(i:Nat)(F:FS):FS:=fun δ=>F (g6 i δ)
noncomputable def el(f:FD):FS:=fun δ=>(f δ).bind fun d=> .ok (.rt d)
theorem Bd{e:Expr}{f:FD}{pos:Pos}(he:PD X e f):Dj X (.Return (some e) pos) (el f):=(x9 he).imp fun D σ H ⟨Z,B,δ,o,E,hf,q⟩=>by
 obtain⟨d,h1,h2⟩:=R.ak hf
 cases h2
 exact⟨Z,B,δ,d,E,h1,fun v H1 s1 r1=>q v B H1 (Ev.same E.zb s1) E.zb r1⟩
noncomputable def nU(c:aw→R Bool)(F G:FS):FS:=fun δ=>(c δ).bind fun b=>if b then F δ else G δ
theorem CH{c:Expr}{a b:List Stmt}{fc:aw→R Bool}{F G:FS}{pos:Pos}(hc:PB X c fc)(ha:oY X a F)(hb:oY X b G):Dj X (.If c a b pos) (nU fc F G):=(BF hc ha hb).imp fun D σ H ⟨Z,B,δ,o,E,hf,q⟩=>by
 obtain⟨k,h1,h2⟩:=R.ak hf
 refine⟨Z,B,δ,k,E,h1,fun H1 s1=>?_⟩
 have q':=q.ev (Ev.same E.zb s1)
 cases k with
 | true=>rw [if_pos rfl] at h2;exact yh ⟨Z,B,δ,o,E.same s1,h2,q'⟩
 | false=>rw [if_neg (by decide)] at h2;exact xV ⟨Z,B,δ,o,E.same s1,h2,q'⟩
noncomputable abbrev FT:=D→aw→R aw
noncomputable def gD(K:PySem.W.Frag)(t:FT):TG:=fun v σ H Q=>∃Z B δ d δ',fw K Z B H σ δ∧Rep K B H d v∧t d δ= .ok δ'∧∀σ' H',aN H H'→fw K Z B H' σ' δ'→σ'.length=σ.length→Q σ' H'
noncomputable abbrev D_(X:Cx)(tg:Expr)(t:FT):Prop:=PG X tg (gD X.K t)
noncomputable def cy(i:Nat):FT:=fun d δ=>R.bF (decide (i < δ.length)) (.ok (δ.set i (.val d)))
theorem yd{i:Nat}{x:Str}{pos:Pos}(hN:X.N.Nodup)(hi:X.N[i]? =some x)(hx:Loc X.env.scope x)(hf:X.fn x=true∨X.env.scope.names.lookup x=some .local:=by first | exact .inl rfl | exact .inr rfl | assumption):D_ X (.Name x pos) (cy i):=
 (vy hN hi hx hf).imp fun v σ H Q ⟨Z,B,δ,d,δ',E,r,ht,q⟩=>by
   obtain⟨hi,h⟩:=R.ba ht
   cases h
   exact q _ H (aN.refl H) (E.set (by rw[←E.len];exact of_decide_eq_true hi) r) (List.length_set ..)
noncomputable abbrev zk:=List D→aw→R aw
noncomputable def IY(K:PySem.W.Frag)(t:zk):y4:=fun vs σ H Q=>∃Z B δ ds δ',fw K Z B H σ δ∧aC K B H ds vs∧t ds δ= .ok δ'∧∀σ' H',aN H H'→fw K Z B H' σ' δ'→σ'.length=σ.length→Q σ' H'
noncomputable abbrev yH(X:Cx)(ts:List Expr)(t:zk):Prop:=Bp X ts (IY X.K t)
theorem Bp.imp{X:Cx}{e:List Expr}{t t':y4}(h:Bp X e t)(w:∀v σ H Q,t' v σ H Q→t v σ H Q):Bp X e t':=fun pins s σ H v u Q I r hq=>h pins s σ H v u Q I r (w v σ H Q hq)
noncomputable def je:zk:=fun ds δ=>match ds with | []=> .ok δ | _=> .no
noncomputable def eW(t:FT)(u:zk):zk:=fun ds δ=>match ds with | d ::r=>(t d δ).bind fun δ'=>u r δ' | []=> .no
theorem xO:yH X [] je:=vx.imp fun vs σ H Q ⟨Z,B,δ,ds,δ',E,r,ht,q⟩=>by
 cases ds with
 | nil=>unfold aC at r;cases ht;exact⟨r,q σ H (aN.refl H) E rfl⟩
 | cons=>cases ht
theorem wA{e:Expr}{es:List Expr}{t:FT}{u:zk}(h1:D_ X e t)(h2:yH X es u)(hs:(assignEach (e ::es) X.env).map (·.2)=assign e X.env ::(assignEach es X.env).map (·.2):=by rfl):yH X (e ::es) (eW t u):=
 (qU h1 h2 hs).imp fun vs σ H Q ⟨Z,B,δ,ds,δ',E,r,ht,q⟩=>by
   cases ds with
   | nil=>cases ht
   | cons d ds=>
     obtain⟨x,xs,rfl,r1,r2⟩:=r.bU
     obtain⟨δ1,h1,h2⟩:=R.ak ht
     exact⟨x,xs,rfl,Z,B,δ,d,δ1,E,r1,h1,fun σ1 H1 s1 E1 l1=>⟨Z,B,δ1,ds,δ',E1,r2.same s1,h2,fun σ2 H2 s2 E2 l2=>q σ2 H2 (s1.trans s2) E2 (l2.trans l1)⟩⟩
noncomputable def jb(n:Nat)(t:zk):FT:=fun d δ=>match d with | .tup ds=>R.bF (decide (ds.length=n)) (t ds δ) | _=> .no
theorem Ae{es:List Expr}{k:Nat}{t:zk}{n:Nat}{pos:Pos}(hc:X.calm=true)(h:yH X es t)(hn:(assignEach es X.env).length=n:=by rfl)(hst:(assignEach es X.env).findIdx? (·.1)=none:=by rfl):D_ X (.Tuple es k pos) (jb n t):=
 (zH hc h hn hst).imp fun v σ H Q ⟨Z,B,δ,d,δ',E,r,ht,q⟩=>by
   cases d with
   | tup ds=>
     unfold Rep at r
     obtain⟨a,xs,rfl,l,r⟩:=r
     obtain⟨hl,h⟩:=R.ba ht
     exact⟨a,xs,rfl,l.sq,by rw[←r.length];exact of_decide_eq_true hl,Z,B,δ,ds,δ',E,r,h,q⟩
   | _=>cases ht
noncomputable def r_(f:FD)(t:FT):FS:=fun δ=>(f δ).bind fun d=>(t d δ).bind fun δ'=> .ok (.nx δ')
noncomputable def za(K:PySem.W.Frag)(B:List Addr)(H:Hp)(J:It)(ds:List D):Prop:=∀B' H',d6 B H B' H'→(∀(i:Nat) (d:D),ds[i]? =some d→J.go i H'∧∀x H'',J.yld i H' x H''→(∀a∈B',∃o,H' a=some o)→aN H' H''∧Rep K B' H'' d x)∧J.stop ds.length H'
noncomputable def iD(K:PySem.W.Frag)(f:aw→R (List D)):TI:=fun σ H R=>∃Z B δ ds,fw K Z B H σ δ∧f δ= .ok ds∧∀J H1,aN H H1→za K B H1 J ds→R J H1
noncomputable abbrev Ed(X:Cx)(tg e:Expr)(f:aw→R (List D)):Prop:=PI X tg e (iD X.K f)
noncomputable def gB(f:FD):aw→R (List D):=fun δ=>(f δ).bind fun d=>match d with | .lst ds=> .ok ds | .tup ds=> .ok ds | _=> .no
theorem z8{tg e:Expr}{f:FD}(h:PD X e f):Ed X tg e (gB f):=by
 intro pins s σ H RR I ⟨Z,B,δ,ds,E,hf,q⟩
 obtain⟨d,h1,h2⟩:=R.ak hf
 refine dg (h pins s σ H (fun v H1=>aN H H1∧Rep X.K B H1 d v) I ⟨Z,B,δ,d,E,h1,fun v H1 s1 r1=>⟨s1,r1⟩⟩) fun v s1 ⟨x,H1,I1,r1,ss,rr⟩=>?_
 cases d with
 | lst es=>
   cases h2
   unfold Rep at rr
   obtain⟨a,xs,rfl,l,rr⟩:=rr
   cases r1
   obtain⟨its,rv,p,hz⟩:=I1.list l.sq
   refine wpAny_pyIter_list p.isList ?_
   refine⟨s1.heap.objs.size,[s1.heap.objs.size],_,_,H1,rfl,I1.kept (t':=s1.toks) fun b o e=>Heap.get?_push_of_some _ e,pe a _,⟨_,Heap.get?_push_size _ rfl,rfl,rfl⟩,fun b hb=>?_,q _ H1 ss fun B' H' pr=>?_⟩
   ·have e:b=s1.heap.objs.size:=by simpa using hb
    subst e
    exact I1.oV (Nat.le_refl _) (I1.hok.fresh (Nat.le_refl _))
   ·have l':m5 X.K B' H' a xs:=l.bg pr
    have rr':=rr.bg pr
    refine⟨fun i d hd=>?_,⟨xs,l'.sq,by rw[rr.length];exact Nat.le_refl _⟩⟩
    obtain⟨x,hx,rx⟩:=rr'.get hd
    exact⟨⟨xs,x,l'.sq,hx⟩,fun y H'' ⟨e1,e2⟩ _=>by
     subst e1
     have:=e2 xs l'.sq
     rw[hx] at this
     cases this
     exact⟨aN.refl _,rx⟩⟩
 | tup es=>
   cases h2
   unfold Rep at rr
   obtain⟨a,xs,rfl,l,rr⟩:=rr
   cases r1
   obtain⟨its,rv,p,hz⟩:=I1.tuple l.sq
   refine wpAny_pyIter_tuple (show s1.heap.IsTuple a its.toArray from p) ?_
   refine⟨s1.heap.objs.size,[s1.heap.objs.size],_,_,H1,rfl,I1.kept (t':=s1.toks) fun b o e=>Heap.get?_push_of_some _ e,sZ a _,⟨_,Heap.get?_push_size _ rfl,rfl,rfl⟩,fun b hb=>?_,q _ H1 ss fun B' H' pr=>?_⟩
   ·have e:b=s1.heap.objs.size:=by simpa using hb
    subst e
    exact I1.oV (Nat.le_refl _) (I1.hok.fresh (Nat.le_refl _))
   ·have l':qB X.K B' H' a xs:=l.elim (fun z=> .inl ⟨(pr.rd z.2 z.1).2,(pr.rd z.2 z.1).1⟩) .inr
    have rr':=rr.bg pr
    refine⟨fun i d hd=>?_,⟨xs,l'.sq,by rw[rr.length];exact Nat.le_refl _⟩⟩
    obtain⟨x,hx,rx⟩:=rr'.get hd
    exact⟨⟨xs,x,l'.sq,hx⟩,fun y H'' ⟨e1,e2⟩ _=>by
     subst e1
     have:=e2 xs l'.sq
     rw[hx] at this
     cases this
     exact⟨aN.refl _,rx⟩⟩
 | _=>cases h2
noncomputable def bZ(lo:Int)(n:Nat):List D:=(List.range n).map fun(i:Nat)=>D.int (lo+i)
theorem xB{K:PySem.W.Frag}{B:List Addr}{H:Hp}(lo:Int)(n:Nat):za K B H (FC lo n) (bZ lo n):=fun B' H' _=>by
 refine⟨fun i d hd=>?_,?_⟩
 ·unfold bZ at hd
  rw[List.getElem?_map] at hd
  cases e:(List.range n)[i]? with
  | none=>rw [e] at hd;cases hd
  | some j=>
    rw[e] at hd
    cases hd
    obtain⟨hi,ej⟩:=List.getElem?_eq_some_iff.mp e
    rw[List.getElem_range] at ej
    subst ej
    rw[List.length_range] at hi
    exact⟨hi,fun x H'' ⟨e1,e2⟩ _=>by subst e1 e2;exact⟨aN.refl _,by unfold Rep;rfl⟩⟩
 ·show n≤(bZ lo n).length
  unfold bZ
  rw[List.length_map,List.length_range]
  exact Nat.le_refl _
noncomputable def eg(f:FD):aw→R (List D):=fun δ=>(f δ).bind fun d=>match d with | .int j=>R.bF (decide (-(2 ^ 62)≤j∧j < 2 ^ 62)) (.ok (bZ 0 j.toNat)) | _=> .no
theorem tH{tg a:Expr}{f:FD}{p pos:Pos}(h:PD X a f)(hg:Gl X "range")(hm:X.mg "range"=none)(hs:starEach [a] X.env=[(false,eval a X.env)]:=by rfl):Ed X tg (.Call (.Name "range" p) [a] [] pos) (eg f):=
 (pA hg hm (eU h g9 hs) hs).imp fun σ H RR ⟨Z,B,δ,ds,E,hf,q⟩=>by
   obtain⟨d,h1,h2⟩:=R.ak hf
   cases d with
   | int j=>
     obtain⟨hb,h3⟩:=R.ba h2
     cases h3
     have hb:=of_decide_eq_true hb
     refine⟨Z,B,δ, .int j,E,h1,fun v H1 s1 r1=>⟨j,?_,hb.1,hb.2,q _ H1 s1 (xB 0 _)⟩⟩
     unfold Rep at r1
     rw[r1]
   | _=>cases h2
noncomputable def Gv(f g:FD):aw→R (List D):=fun δ=>(f δ).bind fun d=>(g δ).bind fun e=>match d,e with
 | .int i, .int j=>R.bF (decide (-(2 ^ 62)≤i∧i < 2 ^ 62∧ -(2 ^ 62)≤j∧j < 2 ^ 62)) (.ok (bZ i (j - i).toNat)) | _,_=> .no
noncomputable def l3(t:FT)(body:FS):List D→FS
 | [],δ=> .ok (.nx δ)
 | d ::ds,δ=>(t d δ).bind fun δ1=>(body δ1).bind fun o=>match o with | .nx δ2=>l3 t body ds δ2 | .rt r=> .ok (.rt r)
noncomputable def v_(it:aw→R (List D))(t:FT)(body:FS):FS:=fun δ=>(it δ).bind fun ds=>l3 t body ds δ
theorem Ad{tg iter:Expr}{body:List Stmt}{it:aw→R (List D)}{t:FT}{F:FS}{pos:Pos}(hp:PassesOwn (model X.prog X.w) X.A X.env X.xe)(hc:X.calm=true)(hi:Ed X tg iter it)(hg:D_ X tg t)(hb:oY X body F)
 (hs:∀x,foldedSetIterable iter X.env x=pure x:=by intro _;rfl):Dj X (.For tg iter body [] pos) (v_ it t F):=(xr hp hc hi hg hb hs).imp fun D σ H ⟨Z,B,δ,o,E,hf,q⟩=>by
 obtain⟨ds,h1,h2⟩:=R.ak hf
 refine⟨Z,B,δ,ds,E,h1,fun J H1 s1 ir=>?_⟩
 refine⟨fun i m σ' H'=>m=ds.length - i∧i≤ds.length∧∃B' δ',Ev Z B H1 B' H'∧fw X.K Z B' H' σ' δ'∧l3 t F (ds.drop i) δ'= .ok o,⟨ds.length,rfl,Nat.zero_le _,B,δ,Ev.refl Z B H1 E.zb,E.same s1,by simpa using h2⟩,?_⟩
 rintro i m σ' H' ⟨rfl,hi,B',δ',ev,E',hl⟩
 obtain⟨go,stop⟩:=ir B' H' ev.bg
 by_cases hlt:i < ds.length
 ·have hd:ds[i]? =some ds[i]:=List.getElem?_eq_getElem hlt
  have hdrop:ds.drop i=ds[i] ::ds.drop (i+1):=List.drop_eq_getElem_cons hlt
  rw[hdrop] at hl
  obtain⟨δ1,h3,h4⟩:=R.ak hl
  obtain⟨o1,h5,h6⟩:=R.ak h4
  obtain⟨g1,g2⟩:=go i _ hd
  refine .inr ⟨g1,fun σ2 H2=>∃B2 δ2,Ev Z B H1 B2 H2∧fw X.K Z B2 H2 σ2 δ2∧l3 t F (ds.drop (i+1)) δ2= .ok o,fun σ2 H2 n=>⟨ds.length - (i+1),by omega,rfl,hlt,n⟩,fun x H'' y=>?_⟩
  obtain⟨ss,rr⟩:=g2 x H'' y E'.bs
  refine⟨Z,B',δ',ds[i],δ1,E'.same ss,rr,h3,fun σ2 H2 s2 E2 l2=>⟨Z,B',δ1,o1,E2,h5,?_⟩⟩
  have ev2:Ev Z B H1 B' H2:=ev.trans (Ev.same E'.zb (ss.trans s2))
  cases o1 with
  | nx δ2=>exact fun σ3 B3 H3 ev3 E3=>⟨B3,δ2,ev2.trans ev3,E3,h6⟩
  | rt d=>
    cases h6
    exact fun v B3 H3 ev3 z r=>q v B3 H3 ((Ev.same E.zb s1).trans (ev2.trans ev3)) z r
 ·have e:i=ds.length:=by omega
  subst e
  rw[List.drop_length] at hl
  cases hl
  exact .inl ⟨stop,q σ' B' H' ((Ev.same E.zb s1).trans ev) E'⟩
noncomputable def x5(c:aw→R Bool)(body:FS):Nat→FS
 | 0,_=> .no
 | n+1,δ=>(c δ).bind fun b=>if b then(body δ).bind fun o=>match o with | .nx δ2=>x5 c body n δ2 | .rt r=> .ok (.rt r) else .ok (.nx δ)
noncomputable def Ge(n:Nat)(c:aw→R Bool)(body:FS):FS:=fun δ=>x5 c body n δ
noncomputable def n8(δ:aw)(i:Nat):Sl:=match δ[i]? with | some (.val d)=> .val d | _=> .un
noncomputable def oT(own:List Str)(kp:List Nat)(δ:aw):aw:=List.replicate own.length .un++kp.map (n8 δ)
noncomputable def nH(t:FT)(c:aw→R Bool)(f:FD)(δ:aw):List D→R (List D)
 | []=> .ok []
 | d ::ds=>(t d δ).bind fun δ1=>(c δ1).bind fun b=>if b then(f δ1).bind fun y=>(nH t c f δ ds).bind fun ys=> .ok (y ::ys) else nH t c f δ ds
noncomputable def jE(it:aw→R (List D))(t:FT)(c:aw→R Bool)(f:FD)(own:List Str)(kp:List Nat):aw→R (List D):=fun δ=>(it δ).bind fun ds=>R.bF (decide (ds.length≤sizeLine)) (nH t c f (oT own kp δ) ds)
theorem B_{K:PySem.W.Frag}{Z B B':List Addr}{H H':Hp}{σ:St}{δ:aw}{own:List Str}{kp:List Nat}(E:fw K Z B H σ δ)(p:d6 B H B' H')(hB:∀a∈B',∃o,H' a=some o):fw K [] B' H' (c6 own kp σ) (oT own kp δ) where
 len:=by unfold c6 oT;simp
 bs:=hB
 zb:=fun a ha=>by cases ha
 val:=fun i d e=>by
  unfold oT at e
  unfold c6
  by_cases hi:i < own.length
  ·rw[List.getElem?_append_left (by simpa using hi),List.getElem?_replicate] at e
   split at e <;> cases e
  ·rw[List.getElem?_append_right (by simpa using hi),List.length_replicate,List.getElem?_map] at e ⊢
   cases q:kp[i - own.length]? with
   | none=>rw [q] at e;cases e
   | some j=>
     rw[q] at e
     have e:n8 δ j= .val d:=Option.some.inj e
     unfold n8 at e
     split at e
     ·rename_i d' ed
      cases e
      obtain⟨v,h1,h2⟩:=E.val j d ed
      exact⟨v,by simp [h1],h2.bg p⟩
     ·cases e
 bld:=fun i ds e=>by
  unfold oT at e
  by_cases hi:i < own.length
  ·rw[List.getElem?_append_left (by simpa using hi),List.getElem?_replicate] at e
   split at e <;> cases e
  ·rw[List.getElem?_append_right (by simpa using hi),List.length_replicate,List.getElem?_map] at e
   cases q:kp[i - own.length]? with
   | none=>rw [q] at e;cases e
   | some j=>
     rw[q] at e
     have e:n8 δ j= .bld ds:=Option.some.inj e
     unfold n8 at e
     split at e <;> cases e
 dis:=fun i j a ds es e=>by
  unfold oT at e
  by_cases hi:i < own.length
  ·rw[List.getElem?_append_left (by simpa using hi),List.getElem?_replicate] at e
   split at e <;> cases e
  ·rw[List.getElem?_append_right (by simpa using hi),List.length_replicate,List.getElem?_map] at e
   cases q:kp[i - own.length]? with
   | none=>rw [q] at e;cases e
   | some j=>
     rw[q] at e
     have e:n8 δ j= .bld ds:=Option.some.inj e
     unfold n8 at e
     split at e <;> cases e
theorem A0{K:PySem.W.Frag}{it:aw→R (List D)}{t:FT}{c:aw→R Bool}{f:FD}{own:List Str}{kp:List Nat}{σ:St}{H:Hp}{Q:VK}(h:tN K (jE it t c f own kp) σ H Q) :
 uM (iD K it) (gD K t) (D8 K c) (tD K f) own kp σ H Q:=by
 obtain⟨Z,B,δ,ds,E,hf,q⟩:=h
 obtain⟨es,h1,h2⟩:=R.ak hf
 obtain⟨hl,h3⟩:=R.ba h2
 have hl:=of_decide_eq_true hl
 refine⟨Z,B,δ,es,E,h1,fun J H1 s1 ir Dd hD=>?_⟩
 have E1:=E.same s1
 have pD:d6 B H1 (Dd ::B) (upd H1 Dd (.lst [])):=sj hD
 refine⟨fun i m ys H'=>m=es.length - i∧i≤es.length∧ys.length≤i∧H' Dd=some (.lst ys)∧aN H1 H'∧∃done rest,ds=done++rest∧aC K (Dd ::B) H' done ys∧nH t c f (oT own kp δ) (es.drop i)= .ok rest,
  ⟨es.length,rfl,Nat.zero_le _,Nat.le_refl _,bc,a0 hD,[],ds,rfl,aC.nil,by simpa using h3⟩,?_⟩
 rintro i m ys H' ⟨rfl,hi,hy,hDl,ss,done,rest,rfl,rd,hc⟩
 have dB:Dd ∉ B:=fun hb=>by obtain⟨o,ho⟩:=E1.bs Dd hb;rw [hD] at ho;cases ho
 have p':d6 B H1 (Dd ::B) H':=fun b o e nb=>⟨ss b o e,fun hb=>by
  rcases List.mem_cons.mp hb with z | z
  ·exact bK e hD z
  ·exact nb z⟩
 have hB':∀a∈Dd ::B,∃o,H' a=some o:=fun a ha=>by
  rcases List.mem_cons.mp ha with z | z
  ·subst z;exact⟨_,hDl⟩
  ·obtain⟨o,ho⟩:=E1.bs a z;exact⟨o,ss a o ho⟩
 obtain⟨go,stop⟩:=ir (Dd ::B) H' p'
 by_cases hlt:i < es.length
 ·have hd:es[i]? =some es[i]:=List.getElem?_eq_getElem hlt
  have hdrop:es.drop i=es[i] ::es.drop (i+1):=List.drop_eq_getElem_cons hlt
  rw[hdrop] at hc
  obtain⟨δ1,h4,h5⟩:=R.ak hc
  obtain⟨b,h6,h7⟩:=R.ak h5
  obtain⟨g1,g2⟩:=go i _ hd
  refine .inr ⟨g1,fun x H2 y=>?_⟩
  obtain⟨sy,ry⟩:=g2 x H2 y hB'
  have Ec:fw K [] (Dd ::B) H2 (c6 own kp σ) (oT own kp δ):=B_ E1 (p'.trans (d6.same sy)) fun a ha=>let⟨o,ho⟩:=hB' a ha;⟨o,sy a o ho⟩
  refine⟨[],Dd ::B,oT own kp δ,es[i],δ1,Ec,ry,h4,fun σ3 H3 s3 E3 _=>⟨[],Dd ::B,δ1,b,E3,h6,fun H4 s4=>?_⟩⟩
  have sAll:aN H' H4:=sy.trans (s3.trans s4)
  cases b with
  | true=>
    rw[if_pos rfl] at h7
    refine yh ?_
    obtain⟨yv,h8,h9⟩:=R.ak h7
    obtain⟨rs,h10,h11⟩:=R.ak h9
    cases h11
    refine⟨[],Dd ::B,δ1,yv,E3.same s4,h8,fun v H5 s5 r5=>?_⟩
    have s':aN H' H5:=sAll.trans s5
    have hD5:H5 Dd=some (.lst ys):=s' Dd _ hDl
    have pu:d6 (Dd ::B) H5 (Dd ::B) (upd H5 Dd (.lst (ys++[v]))):=fun b o e nb=>⟨by rw[bf (fun(z:b=Dd)=>nb (by rw[z];exact List.mem_cons_self))];exact e,nb⟩
    refine⟨hD5,by omega,es.length - (i+1),by omega,rfl,hlt,by rw[List.length_append,List.length_singleton];omega,bc,fun b o e=>?_,done++[yv],rs,by simp,((rd.same s').append (aC.cons r5 aC.nil)).bg pu,h10⟩
    rw[bf (bK e hD)]
    exact s' b o (ss b o e)
  | false=>
    rw[if_neg (by decide)] at h7
    refine xV ?_
    exact⟨es.length - (i+1),by omega,rfl,hlt,by omega,sAll Dd _ hDl,ss.trans sAll,done,rest,rfl,rd.same sAll,h7⟩
 ·have e:i=es.length:=by omega
  subst e
  rw[List.drop_length] at hc
  cases hc
  rw[List.append_nil] at q
  exact .inl ⟨stop,q Dd ys H' (s1.trans ss) (s1.free hD) hDl rd⟩
theorem z7{scope:Scope}{own:List Str}{kp:List Nat}{kn:List Str}{tg iter elt:Expr}{ifs:List Expr}{it:aw→R (List D)}{t:FT}{c:aw→R Bool}{f:FD}{pos:Pos}(hc:X.calm=true)(C:b_ X scope own kp kn)(hi:Ed X tg iter it)
 (hg:∀fp s H,D_ (bu X scope (own++kn) fp s H) tg t) (hif:∀fp s H,mO (bu X scope (own++kn) fp s H) ifs (D8 X.K c)) (he:∀fp s H,PD (bu X scope (own++kn) fp s H) elt f)
 (hs:∀x,foldedSetIterable iter X.env x=pure x:=by intro _;rfl):PN X (.ListComp elt [⟨tg,iter,ifs,0⟩] scope pos) (jE it t c f own kp):=
 (uH hc C hi hg hif he hs).imp fun σ H Q h=>A0 h
noncomputable def sg:aw→R Bool:=fun _=> .ok true
theorem xI:mO X [] (D8 X.K sg):=fun pins s σ H Q I ⟨Z,B,δ,b,E,hf,q⟩=>q9 pins s σ H Q I (by cases hf;exact q H (aN.refl H))
end
noncomputable def cz(N:List Str)(ds:List D):aw:=ds.map .val++List.replicate (N.length - ds.length) .un
noncomputable def mH(N:List Str)(F:FS):List D→R D:=fun ds=>(F (cz N ds)).bind fun o=>match o with | .rt d=> .ok d | .nx _=> .ok .cD
theorem AU{K:PySem.W.Frag}{B:List Addr}{H:Hp}{N:List Str}{ds:List D}{vs:List V}(hB:∀a∈B,∃o,H a=some o)(r:aC K B H ds vs):fw K B B H (start N vs) (cz N ds) where
 len:=by unfold start cz;simp [r.length]
 bs:=hB
 zb:=fun a ha=>ha
 val:=fun i d e=>by
  unfold cz at e
  unfold start
  by_cases hi:i < ds.length
  ·rw[List.getElem?_append_left (by simpa using hi),List.getElem?_map] at e
   cases q:ds[i]? with
   | none=>rw [q] at e;cases e
   | some d'=>
     rw[q] at e
     cases e
     obtain⟨x,h1,h2⟩:=r.get q
     exact⟨x,by rw[List.getElem?_append_left (by rw[List.length_map,←r.length];exact hi),List.getElem?_map,h1];rfl,h2⟩
  ·rw[List.getElem?_append_right (by simpa using hi),List.getElem?_replicate] at e
   split at e <;> cases e
 bld:=fun i es e=>by
  unfold cz at e
  by_cases hi:i < ds.length
  ·rw[List.getElem?_append_left (by simpa using hi),List.getElem?_map] at e
   cases q:ds[i]? with
   | none=>rw [q] at e;cases e
   | some d'=>rw [q] at e;cases e
  ·rw[List.getElem?_append_right (by simpa using hi),List.getElem?_replicate] at e
   split at e <;> cases e
 dis:=fun i j a es fs e=>by
  unfold cz at e
  by_cases hi:i < ds.length
  ·rw[List.getElem?_append_left (by simpa using hi),List.getElem?_map] at e
   cases q:ds[i]? with
   | none=>rw [q] at e;cases e
   | some d'=>rw [q] at e;cases e
  ·rw[List.getElem?_append_right (by simpa using hi),List.getElem?_replicate] at e
   split at e <;> cases e
theorem A4{P:Program}{w:World}{K:PySem.W.Frag}{mg:Str→Option Value}{base:Heap}{x qual:Str}{st:Stmt}{f:Addr}{fd:FuncData}{N ps:List Str}{k:Nat}{F:FS}(Fn:vd K x qual st f fd)(S:aX N ps (ag st))
 (hbody:∀(cdv:Value) (A:Around) (outer:List Env) (s:Shared) (H:Hp) (E:XK),dG k (A.deeper (envOfC qual (ag st) s.heap.objs.size f cdv))→
   oY (nu pP P w K mg base N qual (ag st) f cdv A outer s H E).A2 (aq st) F):gC P w K mg base pP (k+1) f fd ps (zS K ps.length (mH N F)):=by
 refine Fn.ok S (fun vs H Q E h=>h.1) (fun cdv A outer s H vs Q E hr h=>⟨_,hbody cdv A outer s H E hr,?_⟩)
 obtain⟨_,B,ds,d,hB,r,hg,q⟩:=h
 obtain⟨o,h1,h2⟩:=R.ak hg
 refine⟨B,B,cz N ds,o,AU hB r,h1,?_⟩
 have sm:∀{B':List Addr} {H':Hp},Ev B B H B' H'→aN H H':=fun {B' H'} ev b u e=>by
  by_cases hb:b∈B
  ·exact(ev.zs b u e hb).1
  ·exact(ev.bg b u e hb).1
 cases o with
 | nx δ'=>
   cases h2
   exact fun σ' B' H' ev _=>q _ H' (sm ev) (by unfold Rep;rfl)
 | rt d'=>
   cases h2
   exact fun v B' H' ev z rr=>q v H' (sm ev) (rr.bg fun b o e nb=>⟨e,fun hb=>nb (z b hb)⟩)
end L2
end
section
set_option maxRecDepth 100000
set_option maxHeartbeats 4000000
namespace L2
open PySem PySem.Spec PyProof.Rows
theorem Rep.int{K:PySem.W.Frag}{B:List Addr}{H:Hp}{i:Int}{v:V}:Rep K B H (.int i) v↔v= .int i:=by unfold Rep;exact Iff.rfl
theorem Rep.bl{K:PySem.W.Frag}{B:List Addr}{H:Hp}{i:Bool}{v:V}:Rep K B H (.bl i) v↔v= .bl i:=by unfold Rep;exact Iff.rfl
theorem Rep.str{K:PySem.W.Frag}{B:List Addr}{H:Hp}{i:Str}{v:V}:Rep K B H (.str i) v↔v= .str i:=by unfold Rep;exact Iff.rfl
theorem Rep.cD{K:PySem.W.Frag}{B:List Addr}{H:Hp}{v:V}:Rep K B H .cD v↔v= .cD:=by unfold Rep;exact Iff.rfl
theorem Rep.lst{K:PySem.W.Frag}{B:List Addr}{H:Hp}{ds:List D}{v:V}:Rep K B H (.lst ds) v↔∃a xs,v= .ref a∧m5 K B H a xs∧aC K B H ds xs:=by rw[Rep]
theorem Rep.tup{K:PySem.W.Frag}{B:List Addr}{H:Hp}{ds:List D}{v:V}:Rep K B H (.tup ds) v↔∃a xs,v= .ref a∧qB K B H a xs∧aC K B H ds xs:=by rw[Rep]
section
variable {X:Cx}
theorem iM.of{f:Value→Value→Sem Value}{r:R2}{g:D→D→R D}(h:jD X f r)
 (w:∀(B:List Addr) (H:Hp) (da db d:D) (x y:V) (Q:VK),(∀a∈B,∃o,H a=some o)→Rep X.K B H da x→Rep X.K B H db y→g da db= .ok d→(∀z H',aN H H'→Rep X.K B H' d z→Q z H')→r x y H Q):iM X f g:=by
 intro pins s σ H B da db d x y v u I hb rx ry ra rb hg
 exact h pins s σ H x y v u _ I rx ry (w B H da db d x y _ hb ra rb hg fun z H' s1 r1=>⟨s1,r1⟩)
theorem cL.of{f:Value}{r:List V→Hp→VK→Prop}{g:List D→R D}(h:jq X f r)
 (w:∀(B:List Addr) (H:Hp) (ds:List D) (d:D) (xs:List V) (Q:VK),(∀a∈B,∃o,H a=some o)→aC X.K B H ds xs→g ds= .ok d→(∀z H',aN H H'→Rep X.K B H' d z→Q z H')→r xs H Q):cL X f g:=by
 intro pins s σ H B ds d xs us I hb rx rs hg
 exact h pins s σ H xs us _ I rx (w B H ds d xs _ hb rs hg fun z H' s1 r1=>⟨s1,r1⟩)
theorem cL.or{f:Value}{g g1 g2:List D→R D}(h1:cL X f g1)(h2:cL X f g2)(e:∀a d,g a= .ok d→g1 a= .ok d∨g2 a= .ok d):cL X f g:=by
 intro pins s σ H B ds d xs us I hb rx rs hg
 rcases e ds d hg with q | q
 ·exact h1 pins s σ H B ds d xs us I hb rx rs q
 ·exact h2 pins s σ H B ds d xs us I hb rx rs q
noncomputable def qi(C:Int→Int→Bool)(g:Int→Int→Int):D→D→R D
 | .int i, .int j=>R.bF (C i j) (.ok (.int (g i j)))
 | _,_=> .no
theorem rV{f:Value→Value→Sem Value}{C:Int→Int→Bool}{Cp:Int→Int→Prop}{g:Int→Int→Int}(h:jD X f (rI Cp fun i j=> .int (g i j)))(hc:∀i j,C i j=true→Cp i j):iM X f (qi C g):=
 iM.of h fun B H da db d x y Q _ ra rb hg q=>by
  unfold qi at hg
  split at hg
  ·obtain⟨h1,h2⟩:=R.ba hg
   cases h2
   exact⟨_,_,Rep.int.mp ra,Rep.int.mp rb,hc _ _ h1,q _ H (aN.refl H) (Rep.int.mpr rfl)⟩
  ·cases hg
noncomputable def ll(g:Int→Int→Int):D→D→R D
 | .int i, .int j=> .ok (.int (g i j))
 | _,_=> .no
theorem qE{f:Value→Value→Sem Value}{g:Int→Int→Int}(h:jD X f (xg fun i j=> .int (g i j))):iM X f (ll g):=
 iM.of h fun B H da db d x y Q _ ra rb hg q=>by
  unfold ll at hg
  split at hg
  ·cases hg
   exact⟨_,_,Rep.int.mp ra,Rep.int.mp rb,q _ H (aN.refl H) (Rep.int.mpr rfl)⟩
  ·cases hg
noncomputable def uI(g:Int→Int→Bool):D→D→R D
 | .int i, .int j=> .ok (.bl (g i j))
 | _,_=> .no
theorem zA{f:Value→Value→Sem Value}{g:Int→Int→Bool}(h:jD X f (xg fun i j=> .bl (g i j))):iM X f (uI g):=
 iM.of h fun B H da db d x y Q _ ra rb hg q=>by
  unfold uI at hg
  split at hg
  ·cases hg
   exact⟨_,_,Rep.int.mp ra,Rep.int.mp rb,q _ H (aN.refl H) (Rep.bl.mpr rfl)⟩
  ·cases hg
noncomputable abbrev iO:D→D→R D:=ll fun i j=>i - j
theorem nR:iM X (binaryOp .Sub) iO:=qE Cj
noncomputable abbrev mq:D→D→R D:=qi (fun _ j=>decide (0 < j∧j < 1073741824)) fun i j=>i / j
noncomputable abbrev gG:D→D→R D:=qi (fun _ j=>decide (0 < j)) fun i j=>i % j
theorem j9:iM X (binaryOp .Mod) gG:=rV DW fun i j h=>of_decide_eq_true h
noncomputable abbrev n4:D→D→R D:=qi (fun i j=>decide (0≤j∧j≤1000000∧i.natAbs < 2 ^ 64)) fun i j=>i ^ j.toNat
theorem BI:iM X (binaryOp .Pow) n4:=rV DP fun i j h=>(of_decide_eq_true h:0≤j∧j≤1000000∧i.natAbs < 2 ^ 64)
noncomputable abbrev lD:D→D→R D:=qi (fun _ j=>decide (0≤j)) fun i j=>i / 2 ^ j.toNat
theorem EC:iM X (binaryOp .RShift) lD:=rV DY fun i j h=>of_decide_eq_true h
noncomputable abbrev zQ:D→D→R D:=ll fun i j=>Builtin.bitAnd i j
theorem wQ:iM X (binaryOp .BitAnd) zQ:=qE Ct
noncomputable abbrev C5:D→D→R D:=ll fun i j=>Builtin.bitOr i j
theorem zO:iM X (binaryOp .BitOr) C5:=qE Fs
noncomputable abbrev zX:D→D→R D:=ll fun i j=>Builtin.bitXor i j
theorem wa:iM X (binaryOp .BitXor) zX:=qE Cs
noncomputable abbrev xj:D→D→R D:=uI fun i j=>decide (i < j)
theorem EK:iM X (compareOp .Lt) xj:=zA EM
noncomputable abbrev BM:D→D→R D:=uI fun i j=>decide (i≤j)
noncomputable abbrev tO:D→D→R D:=uI fun i j=>decide (j < i)
theorem Di:iM X (compareOp .Gt) tO:=zA Fo
noncomputable abbrev zT:D→D→R D:=uI fun i j=>decide (j≤i)
theorem GH:iM X (compareOp .GtE) zT:=zA EV
theorem m5.yU{K:PySem.W.Frag}{B:List Addr}{H:Hp}{a:Addr}{xs:List V}(h:H a=some (.lst xs))(n:a ∉ B):m5 K B H a xs:= .inl ⟨n, .inl h⟩
theorem Inv.BS{pins:List (Addr × Obj)}{σ:St}{H:Hp}{s:Shared}{a:Addr}{xs:List V}{B:List Addr}(I:Inv X pins σ H s)(h:m5 X.K B H a xs):∃(its:List Value) (n:Nat),Vals xs its∧s.heap.get? a=some {cls:= .type "list",data:= .seq its.toArray n}∧xs.length≤sizeLine:=by
 rcases h with⟨_,h⟩ | ⟨its,n,hk,hz,r⟩
 ·obtain⟨z,its,n,r,e⟩:=h.ok I.hok
  exact⟨its,n,r,e,z⟩
 ·exact⟨its,n,r,I.lJ a _ hk,hz⟩
theorem u0:jD X (binaryOp .Add) (fun x y H Q=>∃B l b xs zs,x= .ref l∧y= .ref b∧m5 X.K B H l xs∧m5 X.K B H b zs∧xs.length+zs.length≤sizeLine∧∀p,H p=none→Q (.ref p) (upd H p (.lst (xs++zs)))):=by
 intro pins s σ H x y v u Q I rx ry h
 obtain⟨B,l,b,xs,zs,rfl,rfl,hH,hB,hz,q⟩:=h
 cases rx
 cases ry
 obtain⟨its,n,r,e,_⟩:=I.BS hH
 obtain⟨its2,n2,r2,e2,_⟩:=I.BS hB
 have l1:=r.length
 have l2:=r2.length
 refine PySem.P.add_list e e2 ?_ (by rw[List.size_toArray,List.size_toArray];omega)
 have ea:its.toArray++its2.toArray=(its++its2).toArray:=by simp
 rw[ea]
 exact⟨.ref _,_,I.A6 (t':=s.toks) (r.append r2) (by rw[List.length_append];omega),rfl,q _ I.fresh⟩
noncomputable def dH:D→D→R D
 | .int i, .int j=> .ok (.int (i+j))
 | .str a, .str b=>R.bF (decide (a.length+b.length≤sizeLine)) (.ok (.str (a++b)))
 | .lst a, .lst b=>R.bF (decide (a.length+b.length≤sizeLine)) (.ok (.lst (a++b)))
 | _,_=> .no
theorem ft:iM X (binaryOp .Add) dH:=by
 intro pins s σ H B da db d x y v u I hb rx ry ra rb hg
 unfold dH at hg
 split at hg
 ·cases hg
  exact CM pins s σ H x y v u _ I rx ry ⟨_,_,Rep.int.mp ra,Rep.int.mp rb,aN.refl H,Rep.int.mpr rfl⟩
 ·obtain⟨h1,h2⟩:=R.ba hg
  cases h2
  exact tI pins s σ H x y v u _ I rx ry ⟨_,_,Rep.str.mp ra,Rep.str.mp rb,of_decide_eq_true h1,aN.refl H,Rep.str.mpr rfl⟩
 ·obtain⟨h1,h2⟩:=R.ba hg
  cases h2
  obtain⟨a1,xs1,rfl,l1,r1⟩:=Rep.lst.mp ra
  obtain⟨a2,xs2,rfl,l2,r2⟩:=Rep.lst.mp rb
  refine u0 pins s σ H _ _ v u _ I rx ry ⟨B,a1,a2,xs1,xs2,rfl,rfl,l1,l2,by rw[←r1.length,←r2.length];exact of_decide_eq_true h1,fun p hp=>⟨a0 hp,Rep.lst.mpr ⟨p,_,rfl, .yU bc fun ha=>?_,(r1.append r2).same (a0 hp)⟩⟩⟩
  obtain⟨o,ho⟩:=hb p ha
  rw[hp] at ho;cases ho
 ·cases hg
theorem AH:jD X (binaryOp .Mult) (fun x y H Q=>∃z n,x= .str z∧y= .int n∧MulOk z n∧Q (.str (Txt.mul z n)) H):=by
 intro pins s σ H x y v u Q I rx ry h
 obtain⟨z,n,rfl,rfl,hm,q⟩:=h
 obtain⟨t,rfl⟩:=rx
 obtain⟨t',rfl⟩:=ry
 exact SB.mul hm fun t2 k=>⟨.str _,H,I.tok _,⟨_,rfl⟩,q⟩
end
end L2
end
section
set_option maxRecDepth 100000
set_option maxHeartbeats 4000000
namespace L2
open PySem PySem.Spec PyProof.Rows
section
variable {X:Cx}
theorem mulOk_of{x:Str}{n:Int}(h1: -(2 ^ 63)≤n)(h2:n < 2 ^ 63)(h3:x.length*n.toNat≤sizeLine):MulOk x n:=by
 refine⟨by simp only[Bool.or_eq_false_iff,decide_eq_false_iff_not];omega,fun hn _=>?_,fun hn _=>?_⟩
 ·have hz:sizeLine=16777216:=sizeLine_eq
  have e:(n.toNat:Int)=n:=by omega
  have h4:(x.length:Int)*n≤16777216:=by
   have:((x.length*n.toNat:Nat):Int)≤((16777216:Nat):Int):=Int.ofNat_le.mpr (by omega)
   rw[Int.natCast_mul,e] at this
   exact this
  have:(x.length:Int)≤(2 ^ 63 - 1) / n:=(Int.le_ediv_iff_mul_le (by omega)).mpr (by omega)
  omega
 ·unfold Builtin.Str.tooLong;exact decide_eq_false (by omega)
noncomputable def km:D→D→R D
 | .int i, .int j=>R.bF (decide ((-(2 ^ 64) < i∧i < 2 ^ 64)∨(-(2 ^ 64) < j∧j < 2 ^ 64))) (.ok (.int (i*j)))
 | .str x, .int n=>R.bF (decide (-(2 ^ 63)≤n∧n < 2 ^ 63∧x.length*n.toNat≤sizeLine)) (.ok (.str (Txt.mul x n)))
 | _,_=> .no
theorem rN:iM X (binaryOp .Mult) km:=by
 intro pins s σ H B da db d x y v u I hb rx ry ra rb hg
 unfold km at hg
 split at hg
 ·obtain⟨h1,h2⟩:=R.ba hg
  cases h2
  have h1:=of_decide_eq_true h1
  exact Cd pins s σ H x y v u _ I rx ry ⟨_,_,Rep.int.mp ra,Rep.int.mp rb,h1,aN.refl H,Rep.int.mpr rfl⟩
 ·obtain⟨h1,h2⟩:=R.ba hg
  cases h2
  have h1:=of_decide_eq_true h1
  exact AH pins s σ H x y v u _ I rx ry ⟨_,_,Rep.str.mp ra,Rep.int.mp rb,mulOk_of h1.1 h1.2.1 h1.2.2,aN.refl H,Rep.str.mpr rfl⟩
 ·cases hg
mutual
noncomputable def toPy:D→PyData
 | .cD=> .none
 | .bl b=> .bool b
 | .int i=> .int i
 | .str x=> .str x
 | .lst ds=> .list (f6 ds)
 | .tup ds=> .tuple (f6 ds)
 | .dct _ _=> .dict []
noncomputable def f6:List D→List PyData
 | []=>[]
 | d ::ds=>toPy d ::f6 ds
end
mutual
noncomputable def ef:D→Bool
 | .dct _ _=>false
 | .lst ds=>gR ds
 | .tup ds=>gR ds
 | _=>true
noncomputable def gR:List D→Bool
 | []=>true
 | d ::ds=>ef d && gR ds
end
mutual
theorem Rep.reads{pins:List (Addr × Obj)}{σ:St}{H:Hp}{s:Shared}{B:List Addr}(I:Inv X pins σ H s):∀{d:D} {v:V} {u:Value},ef d=true→Rep X.K B H d v→RelV v u→∃as,Reads s.heap u (toPy d) as
 | .cD,v,u,_,r,q=>by rw[Rep.cD.mp r] at q;cases q;unfold toPy;exact⟨_, .none⟩
 | .bl b,v,u,_,r,q=>by rw[Rep.bl.mp r] at q;cases q;unfold toPy;exact⟨_, .bool b⟩
 | .int i,v,u,_,r,q=>by rw[Rep.int.mp r] at q;obtain⟨t,rfl⟩:=q;unfold toPy;exact⟨_, .int i t⟩
 | .str x,v,u,_,r,q=>by rw[Rep.str.mp r] at q;obtain⟨t,rfl⟩:=q;unfold toPy;exact⟨_, .str x t⟩
 | .lst ds,v,u,hp,r,q=>by
   obtain⟨a,xs,rfl,l,rs⟩:=Rep.lst.mp r
   cases q
   obtain⟨its,rv,⟨o,n,e,hc,hd,he⟩,_⟩:=I.list l.sq
   obtain⟨as,ra⟩:=aC.reads I (by unfold ef at hp;exact hp) rs rv
   unfold toPy
   exact⟨_, .list e hc he (by simpa using ra)⟩
 | .tup ds,v,u,hp,r,q=>by
   obtain⟨a,xs,rfl,l,rs⟩:=Rep.tup.mp r
   cases q
   obtain⟨its,rv,⟨o,e,hc,n,hd⟩,_⟩:=I.tuple l.sq
   obtain⟨as,ra⟩:=aC.reads I (by unfold ef at hp;exact hp) rs rv
   unfold toPy
   exact⟨_, .tuple e hc hd (by simpa using ra)⟩
 | .dct _ _,v,u,hp,r,q=>by unfold ef at hp;cases hp
theorem aC.reads{pins:List (Addr × Obj)}{σ:St}{H:Hp}{s:Shared}{B:List Addr}(I:Inv X pins σ H s):∀{ds:List D} {vs:List V} {us:List Value},gR ds=true→aC X.K B H ds vs→Vals vs us→∃as,ReadsAll s.heap us (f6 ds) as
 | [],vs,us,_,r,q=>by unfold aC at r;subst r;cases q;unfold f6;exact⟨_, .nil⟩
 | d ::ds,vs,us,hp,r,q=>by
   obtain⟨x,xs,rfl,r1,r2⟩:=r.bU
   cases q with
   | cons q1 q2=>
     unfold gR at hp
     obtain⟨h1,h2⟩:=Bool.and_eq_true_iff.mp hp
     obtain⟨as,a1⟩:=Rep.reads I h1 r1 q1
     obtain⟨bs,a2⟩:=aC.reads I h2 r2 q2
     unfold f6
     exact⟨_, .cons a1 a2⟩
end
noncomputable def zU:D→D→R Bool
 | .int i, .int j=> .ok (decide (i=j))
 | .str x, .str y=> .ok (decide (x=y))
 | .bl a, .bl b=> .ok (decide (a=b))
 | d,e=>R.bF (ef d && ef e && SeqAt.shaped (toPy d) && SeqAt.shaped (toPy e)) (.ok (PyData.eqv (toPy d) (toPy e)))
noncomputable def ik(d e:D):R D:=(zU d e).bind fun b=> .ok (.bl b)
noncomputable def sU(d e:D):R D:=(zU d e).bind fun b=> .ok (.bl (!b))
theorem jk(hu:X.A.units+64 < cLine):iM X (compareOp .Eq) ik:=by
 intro pins s σ H B da db d x y v u I hb rx ry ra rb hg
 obtain⟨b,h1,h2⟩:=R.ak hg
 cases h2
 unfold zU at h1
 split at h1
 ·cases h1
  rename_i i j
  have:=ze pins s σ H x y v u (fun z H'=>aN H H'∧Rep X.K B H' (.bl (decide (i=j))) z) I rx ry
  rw[Rep.int.mp ra,Rep.int.mp rb] at this
  refine this ⟨rfl,aN.refl H,Rep.bl.mpr ?_⟩
  simp [V.int.injEq]
 ·cases h1
  rename_i i j
  have:=ze pins s σ H x y v u (fun z H'=>aN H H'∧Rep X.K B H' (.bl (decide (i=j))) z) I rx ry
  rw[Rep.str.mp ra,Rep.str.mp rb] at this
  refine this ⟨rfl,aN.refl H,Rep.bl.mpr ?_⟩
  simp [V.str.injEq]
 ·cases h1
  rename_i i j
  have:=ze pins s σ H x y v u (fun z H'=>aN H H'∧Rep X.K B H' (.bl (decide (i=j))) z) I rx ry
  rw[Rep.bl.mp ra,Rep.bl.mp rb] at this
  refine this ⟨rfl,aN.refl H,Rep.bl.mpr ?_⟩
  simp [V.bl.injEq]
 ·obtain⟨h3,h4⟩:=R.ba h1
  cases h4
  simp only[Bool.and_eq_true] at h3
  obtain⟨⟨⟨p1,p2⟩,s1⟩,s2⟩:=h3
  obtain⟨as,r1⟩:=ra.reads I p1 rx
  obtain⟨bs,r2⟩:=rb.reads I p2 ry
  exact eq_dataH r1 r2 s1 s2 hu ⟨.bl _,H,I,rfl,aN.refl H,Rep.bl.mpr rfl⟩
theorem Dm(hu:X.A.units+64 < cLine):iM X (compareOp .NotEq) sU:=by
 intro pins s σ H B da db d x y v u I hb rx ry ra rb hg
 obtain⟨b,h1,h2⟩:=R.ak hg
 cases h2
 unfold zU at h1
 split at h1
 ·cases h1
  rename_i i j
  have:=yx pins s σ H x y v u (fun z H'=>aN H H'∧Rep X.K B H' (.bl (!decide (i=j))) z) I rx ry
  rw[Rep.int.mp ra,Rep.int.mp rb] at this
  refine this ⟨rfl,aN.refl H,Rep.bl.mpr ?_⟩
  simp [V.int.injEq]
 ·cases h1
  rename_i i j
  have:=yx pins s σ H x y v u (fun z H'=>aN H H'∧Rep X.K B H' (.bl (!decide (i=j))) z) I rx ry
  rw[Rep.str.mp ra,Rep.str.mp rb] at this
  refine this ⟨rfl,aN.refl H,Rep.bl.mpr ?_⟩
  simp [V.str.injEq]
 ·cases h1
  rename_i i j
  have:=yx pins s σ H x y v u (fun z H'=>aN H H'∧Rep X.K B H' (.bl (!decide (i=j))) z) I rx ry
  rw[Rep.bl.mp ra,Rep.bl.mp rb] at this
  refine this ⟨rfl,aN.refl H,Rep.bl.mpr ?_⟩
  simp [V.bl.injEq]
 ·obtain⟨h3,h4⟩:=R.ba h1
  cases h4
  simp only[Bool.and_eq_true] at h3
  obtain⟨⟨⟨p1,p2⟩,s1⟩,s2⟩:=h3
  obtain⟨as,r1⟩:=ra.reads I p1 rx
  obtain⟨bs,r2⟩:=rb.reads I p2 ry
  exact ne_dataH r1 r2 s1 s2 hu ⟨.bl _,H,I,rfl,aN.refl H,Rep.bl.mpr rfl⟩
noncomputable def strs?:List D→Option (List Str)
 | []=>some []
 | .str x ::ds=>(strs? ds).map (x ::·)
 | _ ::_=>none
theorem iC{K:PySem.W.Frag}{B:List Addr}{H:Hp}:∀{ds:List D} {xs:List V} {ss:List Str},aC K B H ds xs→strs? ds=some ss→xs=ss.map V.str
 | [],xs,ss,r,h=>by unfold aC at r;subst r;cases h;rfl
 | d ::ds,xs,ss,r,h=>by
   obtain⟨x,r',rfl,r1,r2⟩:=r.bU
   cases d with
   | str z=>
     unfold strs? at h
     cases e:strs? ds with
     | none=>rw [e] at h;cases h
     | some tt=>
       rw[e] at h
       cases h
       rw[Rep.str.mp r1,iC r2 e]
       rfl
   | _=>cases h
noncomputable def ints?:List D→Option (List Int)
 | []=>some []
 | .int x ::ds=>(ints? ds).map (x ::·)
 | _ ::_=>none
theorem fJ{K:PySem.W.Frag}{B:List Addr}{H:Hp}:∀{ds:List D} {xs:List V} {ss:List Int},aC K B H ds xs→ints? ds=some ss→xs=ss.map V.int
 | [],xs,ss,r,h=>by unfold aC at r;subst r;cases h;rfl
 | d ::ds,xs,ss,r,h=>by
   obtain⟨x,r',rfl,r1,r2⟩:=r.bU
   cases d with
   | int z=>
     unfold ints? at h
     cases e:ints? ds with
     | none=>rw [e] at h;cases h
     | some tt=>
       rw[e] at h
       cases h
       rw[Rep.int.mp r1,fJ r2 e]
       rfl
   | _=>cases h
noncomputable def inD(d e:D):R Bool:=match d,e with
 | .str x, .lst ds=>(match strs? ds with | some ss=> .ok (ss.contains x) | none=> .no)
 | .str x, .tup ds=>(match strs? ds with | some ss=> .ok (ss.contains x) | none=> .no)
 | .str x, .str y=> .ok (!(Builtin.Str.occurrences y x 0 y.length 1).isEmpty)
 | .int x, .lst ds=>(match ints? ds with | some ss=> .ok (ss.contains x) | none=> .no)
 | .int x, .tup ds=>(match ints? ds with | some ss=> .ok (ss.contains x) | none=> .no)
 | _,_=> .no
noncomputable def nc(d e:D):R D:=(inD d e).bind fun b=> .ok (.bl b)
noncomputable def jC(d e:D):R D:=(inD d e).bind fun b=> .ok (.bl (!b))
theorem nL(x:Str):∀ss:List Str,BY (.str x) (ss.map V.str)=ss.contains x
 | []=>rfl
 | y ::ss=>by
   unfold BY
   rw[List.map_cons,List.any_cons]
   have ih:=nL x ss
   unfold BY at ih
   rw[ih]
   show(y==x || ss.contains x)=_
   rw[List.contains_cons]
   congr 1
   exact Bool.eq_iff_iff.mpr ⟨fun h=>by simpa using(beq_iff_eq.mp h).symm,fun h=>by simpa using(beq_iff_eq.mp h).symm⟩
theorem nv(x:Int):∀ss:List Int,BY (.int x) (ss.map V.int)=ss.contains x
 | []=>rfl
 | y ::ss=>by
   unfold BY
   rw[List.map_cons,List.any_cons]
   have ih:=nv x ss
   unfold BY at ih
   rw[ih]
   show(y==x || ss.contains x)=_
   rw[List.contains_cons]
   congr 1
   exact Bool.eq_iff_iff.mpr ⟨fun h=>by simpa using(beq_iff_eq.mp h).symm,fun h=>by simpa using(beq_iff_eq.mp h).symm⟩
theorem pz(ss:List Int):(ss.map V.int).all jf=true:=by
 rw[List.all_map]
 simp [List.all_eq_true,jf]
theorem pX(ss:List Str):(ss.map V.str).all jf=true:=by
 rw[List.all_map]
 simp [List.all_eq_true,jf]
theorem B4{neg:Bool}{op:CmpOp}{g:D→D→R D}(h1:jD X (compareOp op) (HN X.K neg))(h2:jD X (compareOp op) (fun x y H Q=>∃i j,x= .str i∧y= .str j∧Q (.bl (if neg then !(!(Builtin.Str.occurrences j i 0 j.length 1).isEmpty) else(!(Builtin.Str.occurrences j i 0 j.length 1).isEmpty))) H))
 (hg:∀d e r,g d e= .ok r→∃b,inD d e= .ok b∧r= .bl (if neg then !b else b)):iM X (compareOp op) g:=by
 intro pins s σ H B da db d x y v u I hb rx ry ra rb hg'
 obtain⟨b,hi,rfl⟩:=hg da db d hg'
 unfold inD at hi
 split at hi
 ·rename_i z ds
  split at hi
  ·rename_i ss e
   cases hi
   obtain⟨a,xs,rfl,l,rs⟩:=Rep.lst.mp rb
   refine h1 pins s σ H x _ v u _ I rx ry ⟨a,xs,rfl, .inl l.sq,by rw[Rep.str.mp ra];rfl,by rw[iC rs e];exact pX _,aN.refl H,Rep.bl.mpr ?_⟩
   rw[iC rs e,Rep.str.mp ra,nL]
  ·cases hi
 ·rename_i z ds
  split at hi
  ·rename_i ss e
   cases hi
   obtain⟨a,xs,rfl,l,rs⟩:=Rep.tup.mp rb
   refine h1 pins s σ H x _ v u _ I rx ry ⟨a,xs,rfl, .inr l.sq,by rw[Rep.str.mp ra];rfl,by rw[iC rs e];exact pX _,aN.refl H,Rep.bl.mpr ?_⟩
   rw[iC rs e,Rep.str.mp ra,nL]
  ·cases hi
 ·cases hi
  exact h2 pins s σ H x y v u _ I rx ry ⟨_,_,Rep.str.mp ra,Rep.str.mp rb,aN.refl H,Rep.bl.mpr rfl⟩
 ·rename_i z ds
  split at hi
  ·rename_i ss e
   cases hi
   obtain⟨a,xs,rfl,l,rs⟩:=Rep.lst.mp rb
   refine h1 pins s σ H x _ v u _ I rx ry ⟨a,xs,rfl, .inl l.sq,by rw[Rep.int.mp ra];rfl,by rw[fJ rs e];exact pz _,aN.refl H,Rep.bl.mpr ?_⟩
   rw[fJ rs e,Rep.int.mp ra,nv]
  ·cases hi
 ·rename_i z ds
  split at hi
  ·rename_i ss e
   cases hi
   obtain⟨a,xs,rfl,l,rs⟩:=Rep.tup.mp rb
   refine h1 pins s σ H x _ v u _ I rx ry ⟨a,xs,rfl, .inr l.sq,by rw[Rep.int.mp ra];rfl,by rw[fJ rs e];exact pz _,aN.refl H,Rep.bl.mpr ?_⟩
   rw[fJ rs e,Rep.int.mp ra,nv]
  ·cases hi
 ·cases hi
theorem AL:iM X (compareOp .In) nc:=B4 (neg:=false) v7 wI fun d e r h=>by
 obtain⟨b,h1,h2⟩:=R.ak h
 cases h2
 exact⟨b,h1,rfl⟩
noncomputable def cw(d e:D):R D:=match d,e with
 | .lst ds, .int i=>(match l8 ds i with | some x=> .ok x | none=> .no)
 | .tup ds, .int i=>(match l8 ds i with | some x=> .ok x | none=> .no)
 | .str x, .int i=>R.bF (decide (x.length≤sizeLine)) (match l8 x.cps.toList i with | some c=> .ok (.str ⟨#[c]⟩) | none=> .no)
 | _,_=> .no
theorem kU{K:PySem.W.Frag}{B:List Addr}{H:Hp}{ds:List D}{xs:List V}{i:Int}{d:D}(r:aC K B H ds xs)(h:l8 ds i=some d):∃x,l8 xs i=some x∧Rep K B H d x:=by
 unfold l8 at h ⊢
 rw[←r.length]
 cases e:m8 ds.length i with
 | none=>rw [e] at h;cases h
 | some j=>
   rw[e] at h
   exact r.get h
theorem FE{a b:Expr}{fa fb:FD}{pos:Pos}(ha:PD X a fa)(hb:PD X b fb)(hs:mP b):PD X (.Subscript a b pos) (e2 cw fa fb):=by
 refine(BL (r:=G9 X.K) yL ha hb hs).imp fun σ H Q ⟨Z,B,δ,d,E,hf,q⟩=>?_
 obtain⟨d1,h1,h2⟩:=R.ak hf
 obtain⟨d2,h3,h4⟩:=R.ak h2
 refine⟨Z,B,δ,d1,E,h1,fun v1 H1 s1 r1=>⟨Z,B,δ,d2,E.same s1,h3,fun v2 H2 s2 r2=>?_⟩⟩
 have r1':=r1.same s2
 unfold cw at h4
 split at h4
 ·split at h4
  ·rename_i e
   cases h4
   obtain⟨p,xs,rfl,l,rs⟩:=Rep.lst.mp r1'
   obtain⟨y,e1,e2⟩:=kU rs e
   exact .inl ⟨p,xs,_,y,rfl,Rep.int.mp r2,l.sq,e1,q y H2 (s1.trans s2) e2⟩
  ·cases h4
 ·split at h4
  ·rename_i e
   cases h4
   obtain⟨p,xs,rfl,l,rs⟩:=Rep.tup.mp r1'
   obtain⟨y,e1,e2⟩:=kU rs e
   exact .inr (.inl ⟨p,xs,_,y,rfl,Rep.int.mp r2,l.sq,e1,q y H2 (s1.trans s2) e2⟩)
  ·cases h4
 ·obtain⟨hl,h5⟩:=R.ba h4
  split at h5
  ·rename_i e
   cases h5
   exact .inr (.inr ⟨_,_,_,Rep.str.mp r1',Rep.int.mp r2,of_decide_eq_true hl,e,q _ H2 (s1.trans s2) (Rep.str.mpr rfl)⟩)
  ·cases h5
 ·cases h4
noncomputable abbrev FO:=aw→R (Option Int)
noncomputable def Il(K:PySem.W.Frag)(f:FO):TO:=fun σ H Q=>∃Z B δ o,fw K Z B H σ δ∧f δ= .ok o∧∀H',aN H H'→Q o H'
theorem PO.imp{X:Cx}{e:Option Expr}{t t':TO}(h:PO X e t)(w:∀σ H Q,t' σ H Q→t σ H Q):PO X e t':=fun pins s σ H Q I hq=>h pins s σ H Q I (w σ H Q hq)
noncomputable abbrev PP(X:Cx)(e:Option Expr)(f:FO):Prop:=PO X e (Il X.K f)
noncomputable def jF:FO:=fun _=> .ok none
noncomputable def iu(f:FD):FO:=fun δ=>(f δ).bind fun d=>match d with | .int i=> .ok (some i) | _=> .no
theorem Ap:PP X none jF:=Bk.imp fun σ H Q ⟨Z,B,δ,o,E,hf,q⟩=>by cases hf;exact q H (aN.refl H)
theorem An{e:Expr}{f:FD}(h:PD X e f):PP X (some e) (iu f):=(Ak h).imp fun σ H Q ⟨Z,B,δ,o,E,hf,q⟩=>by
 obtain⟨d,h1,h2⟩:=R.ak hf
 cases d with
 | int i=>cases h2;exact⟨Z,B,δ, .int i,E,h1,fun v H1 s1 r1=>⟨i,Rep.int.mp r1,q H1 s1⟩⟩
 | _=>cases h2
theorem DN:Ca X (fun x lo hi H Q=>∃z,x= .str z∧z.length≤sizeLine∧Q (.str (Txt.slice z lo hi)) H):=by
 intro pins s σ H x v vl vu lo hi sl Q I rx hs pl pu h
 obtain⟨z,rfl,hz,q⟩:=h
 obtain⟨t,rfl⟩:=rx
 refine⟨"str",_,F.slot_str_getitem.lookup,typeIs_str _ _ _,?_⟩
 have fin:∀t' k,EP X pins σ Q (.str (Txt.slice z lo hi) t') {s with toks:=k}:=fun t' k=>⟨.str _,H,I.tok _,⟨_,rfl⟩,q⟩
 obtain⟨o,ho,hc,hd⟩:=hs
 cases pl with
 | none=>
   cases pu with
   | none=>exact wpAny_getItem_str_slice (l:=none) (u:=none) (st:=none) ⟨o,ho,hc,hd⟩ rfl (post_val_or_str ⟨Nat.le_trans (Txt.slice_le z _ _) hz,fin⟩)
   | int j u=>exact wpAny_getItem_str_slice (l:=none) (u:=some (j,u)) (st:=none) ⟨o,ho,hc,hd⟩ rfl (post_val_or_str ⟨Nat.le_trans (Txt.slice_le z _ _) hz,fin⟩)
 | int i t1=>
   cases pu with
   | none=>exact wpAny_getItem_str_slice (l:=some (i,t1)) (u:=none) (st:=none) ⟨o,ho,hc,hd⟩ rfl (post_val_or_str ⟨Nat.le_trans (Txt.slice_le z _ _) hz,fin⟩)
   | int j u=>exact wpAny_getItem_str_slice (l:=some (i,t1)) (u:=some (j,u)) (st:=none) ⟨o,ho,hc,hd⟩ rfl (post_val_or_str ⟨Nat.le_trans (Txt.slice_le z _ _) hz,fin⟩)
noncomputable def cutD{α:Type}(xs:List α)(lo hi:Option Int):List α:=(xs.drop (HT.oZ xs.length 0 lo)).take (HT.oZ xs.length xs.length hi - HT.oZ xs.length 0 lo)
noncomputable def Ef(d:D)(lo hi:Option Int):R D:=match d with
 | .str x=>R.bF (decide (x.length≤sizeLine)) (.ok (.str (Txt.slice x lo hi)))
 | .lst ds=> .ok (.lst (cutD ds lo hi))
 | _=> .no
theorem yc{K:PySem.W.Frag}{B:List Addr}{H:Hp}{ds:List D}{xs:List V}(r:aC K B H ds xs)(lo hi:Option Int):aC K B H (cutD ds lo hi) (tV xs lo hi):=by
 unfold cutD tV
 rw[←r.length]
 exact(r.drop _).take _
noncomputable def vO(f:FD)(fl fh:FO):FD:=fun δ=>(f δ).bind fun d=>(fl δ).bind fun lo=>(fh δ).bind fun hi=>Ef d lo hi
theorem Fz{e:Expr}{lo hi:Option Expr}{f:FD}{fl fh:FO}{p2 pos:Pos}(he:PD X e f)(hl:PP X lo fl)(hh:PP X hi fh):PD X (.Subscript e (.Slice lo hi none p2) pos) (vO f fl fh):=by
 refine(yY (DN.or BC) he hl hh).imp fun σ H Q ⟨Z,B,δ,d,E,hf,q⟩=>?_
 obtain⟨d1,h1,h2⟩:=R.ak hf
 obtain⟨l,h3,h4⟩:=R.ak h2
 obtain⟨h,h5,h6⟩:=R.ak h4
 refine⟨Z,B,δ,d1,E,h1,fun v1 H1 s1 r1=>⟨Z,B,δ,l,E.same s1,h3,fun H2 s2=>⟨Z,B,δ,h,(E.same s1).same s2,h5,fun H3 s3=>?_⟩⟩⟩
 have sA:aN H H3:=s1.trans (s2.trans s3)
 have r1':=r1.same (s2.trans s3)
 unfold Ef at h6
 split at h6
 ·obtain⟨hz,h7⟩:=R.ba h6
  cases h7
  exact .inl ⟨_,Rep.str.mp r1',of_decide_eq_true hz,q _ H3 sA (Rep.str.mpr rfl)⟩
 ·cases h6
  obtain⟨a,xs,rfl,ls,rs⟩:=Rep.lst.mp r1'
  refine .inr ⟨a,xs,rfl,ls.sq,fun p hp=>q _ _ (sA.trans (a0 hp)) (Rep.lst.mpr ⟨p,_,rfl, .yU bc fun ha=>?_,(yc rs l h).same (a0 hp)⟩)⟩
  obtain⟨o,ho⟩:=(E.same sA).bs p ha
  rw[hp] at ho;cases ho
 ·cases h6
end
end L2
end
section
set_option maxRecDepth 100000
set_option maxHeartbeats 4000000
namespace L2
open PySem PySem.Spec PyProof.Rows
section
variable {X:Cx}
theorem aC.one{K:PySem.W.Frag}{B:List Addr}{H:Hp}{d:D}{xs:List V}(h:aC K B H [d] xs):∃x,xs=[x]∧Rep K B H d x:=by
 obtain⟨x,r,rfl,h1,h2⟩:=h.bU
 unfold aC at h2
 subst h2
 exact⟨x,rfl,h1⟩
theorem aC.two{K:PySem.W.Frag}{B:List Addr}{H:Hp}{d e:D}{xs:List V}(h:aC K B H [d,e] xs):∃x y,xs=[x,y]∧Rep K B H d x∧Rep K B H e y:=by
 obtain⟨x,r,rfl,h1,h2⟩:=h.bU
 obtain⟨y,rfl,h3⟩:=h2.one
 exact⟨x,y,rfl,h1,h3⟩
noncomputable def cK:List D→R D
 | [.str x]=>R.bF (decide (x.length≤sizeLine)) (.ok (.int x.length))
 | [.lst ds]=> .ok (.int ds.length)
 | [.tup ds]=> .ok (.int ds.length)
 | _=> .no
theorem di:cL X (.builtin "len") cK:=cL.of zf fun B H ds d xs Q _ rs hg q=>by
 unfold cK at hg
 split at hg
 ·obtain⟨h1,h2⟩:=R.ba hg
  cases h2
  obtain⟨x,rfl,r⟩:=rs.one
  exact⟨x,_,rfl,by rw[Rep.str.mp r];exact⟨of_decide_eq_true h1,rfl⟩,q _ H (aN.refl H) (Rep.int.mpr rfl)⟩
 ·cases hg
  obtain⟨x,rfl,r⟩:=rs.one
  obtain⟨a,ys,rfl,l,r⟩:=Rep.lst.mp r
  exact⟨_,_,rfl, .inl ⟨ys,l.sq,rfl⟩,q _ H (aN.refl H) (Rep.int.mpr (by rw[r.length]))⟩
 ·cases hg
  obtain⟨x,rfl,r⟩:=rs.one
  obtain⟨a,ys,rfl,l,r⟩:=Rep.tup.mp r
  exact⟨_,_,rfl, .inr ⟨ys,l.sq,rfl⟩,q _ H (aN.refl H) (Rep.int.mpr (by rw[r.length]))⟩
 ·cases hg
noncomputable def cInt:List D→R D
 | [.int i]=> .ok (.int i)
 | [.bl b]=> .ok (.int (if b then 1 else 0))
 | _=> .no
theorem Ek:cL X (.type "int") cInt:=cL.of wK fun B H ds d xs Q _ rs hg q=>by
 unfold cInt at hg
 split at hg
 ·cases hg
  obtain⟨x,rfl,r⟩:=rs.one
  exact .inl ⟨_,by rw[Rep.int.mp r],q _ H (aN.refl H) (Rep.int.mpr rfl)⟩
 ·cases hg
  obtain⟨x,rfl,r⟩:=rs.one
  exact .inr ⟨_,by rw[Rep.bl.mp r],q _ H (aN.refl H) (Rep.int.mpr rfl)⟩
 ·cases hg
noncomputable def cStr:List D→R D
 | [.int i]=>R.bF (decide (i.natAbs.log2 < 1920)) (.ok (.str (toString i)))
 | _=> .no
noncomputable def m7:List D→R D
 | [.int i, .int j]=> .ok (.int (if j < i then j else i))
 | _=> .no
theorem Et(hc:X.calm=true):cL X (.builtin "min") m7:=cL.of (wJ hc) fun B H ds d xs Q _ rs hg q=>by
 unfold m7 at hg
 split at hg
 ·cases hg
  obtain⟨x,y,rfl,r1,r2⟩:=rs.two
  exact⟨_,_,by rw[Rep.int.mp r1,Rep.int.mp r2],q _ H (aN.refl H) (Rep.int.mpr rfl)⟩
 ·cases hg
noncomputable def Gg:List D→R D
 | [.int i, .int j]=> .ok (.int (if j > i then j else i))
 | _=> .no
noncomputable def ee:List D→R D
 | [.lst ds]=> .ok (.tup ds)
 | [.tup ds]=> .ok (.tup ds)
 | _=> .no
theorem lh:cL X (.type "tuple") ee:=cL.of o7 fun B H ds d xs Q hb rs hg q=>by
 unfold ee at hg
 split at hg
 ·cases hg
  obtain⟨x,rfl,r⟩:=rs.one
  obtain⟨a,ys,rfl,l,r⟩:=Rep.lst.mp r
  refine⟨a,ys,rfl, .inl ⟨l.sq,fun p hp=>q _ _ (a0 hp) (Rep.tup.mpr ⟨p,ys,rfl, .inl ⟨fun ha=>?_, .inl bc⟩,r.same (a0 hp)⟩)⟩⟩
  obtain⟨o,ho⟩:=hb p ha
  rw[hp] at ho;cases ho
 ·cases hg
  obtain⟨x,rfl,r⟩:=rs.one
  have r0:=r
  obtain⟨a,ys,rfl,l,r⟩:=Rep.tup.mp r
  exact⟨a,ys,rfl, .inr ⟨l.sq,q _ H (aN.refl H) r0⟩⟩
 ·cases hg
noncomputable def l6:List D→R D
 | [.lst ds]=> .ok (.lst ds)
 | [.tup ds]=> .ok (.lst ds)
 | _=> .no
noncomputable def cAbs:List D→R D
 | [.int i]=> .ok (.int (if i < 0 then -i else i))
 | _=> .no
theorem EO:cL X (.builtin "abs") cAbs:=cL.of xU fun B H ds d xs Q _ rs hg q=>by
 unfold cAbs at hg
 split at hg
 ·cases hg
  obtain⟨x,rfl,r⟩:=rs.one
  exact⟨_,by rw[Rep.int.mp r],q _ H (aN.refl H) (Rep.int.mpr rfl)⟩
 ·cases hg
noncomputable def B9:List D→R D
 | [.lst ds]=>(match ints? ds with | some ns=> .ok (.int ns.sum) | none=> .no)
 | _=> .no
theorem g_:∀{ns:List Int} {us:List Value},Vals (ns.map V.int) us→∃l:List (Int × Tok),us=l.map (fun p=>Value.int p.1 p.2)∧l.map (·.1)=ns
 | [],_, .nil=>⟨[],rfl,rfl⟩
 | n ::ns,_, .cons r t=>by
   obtain⟨l,rfl,e⟩:=g_ t
   obtain⟨tk,rfl⟩:=r
   exact⟨(n,tk) ::l,rfl,by rw[List.map_cons,e]⟩
theorem FQ(hc:X.calm=true):cL X (.builtin "sum") B9:=by
 intro pins s σ H B ds d xs us I hb rx rs hg
 unfold B9 at hg
 split at hg
 ·split at hg
  ·rename_i es ns e
   cases hg
   obtain⟨x,rfl,r⟩:=rs.one
   obtain⟨a,ys,rfl,l,r⟩:=Rep.lst.mp r
   obtain⟨u,rfl,ru⟩:=vals1 rx
   cases ru
   obtain⟨its,n,rv,e1,hz⟩:=I.BS l
   rw[fJ r e] at rv
   obtain⟨ps,rfl,rfl⟩:=g_ rv
   have hl:s.heap.IsList a (intItems ps.toArray):=⟨_,e1,rfl,n,by simp [intItems]⟩
   refine sum_intListG (I.ok.hd hc) hl fun h' tk t' k=>⟨.int _,H,I.kept k,⟨t',rfl⟩,aN.refl H,Rep.int.mpr ?_⟩
   rw[preSum_eq,List.take_of_length_le (by simp)]
  ·cases hg
 ·cases hg
noncomputable def tyName:D→String
 | .cD=>"NoneType" | .bl _=>"bool" | .int _=>"int" | .str _=>"str" | .lst _=>"list" | .tup _=>"tuple" | .dct _ _=>"dict"
noncomputable def sE(T:String)(f:FD):FD:=fun δ=>(f δ).bind fun d=>R.bF (tyName d==T && d.atom) (.ok (.bl true))
noncomputable def F8(X:Cx)(id:String)(g:D→List D→R D):Prop:=
 ∀(pins:List (Addr × Obj)) (s:Shared) (σ:St) (H:Hp) (B:List Addr) (da d:D) (ds:List D) (x:V) (xs:List V) (v:Value) (us:List Value),Inv X pins σ H s→(∀a∈B,∃o,H a=some o)→RelV x v→Vals xs us→Rep X.K B H da x→aC X.K B H ds xs→g da ds= .ok d→
  wpAny (model X.prog X.w) X.A (call (.builtin id) (v ::us)) (EP X pins σ fun z H'=>aN H H'∧Rep X.K B H' d z) X.xe s
noncomputable def vY(T:String)(g:D→List D→R D)(f:FD)(fs:aw→R (List D)):FD:=fun δ=>(f δ).bind fun d=>R.bF (tyName d==T && (d.atom || T=="list")) ((fs δ).bind fun ds=>g d ds)
theorem F8.r{id:String}{g:D→List D→R D}(h:F8 X id g):Hg X id (fun x xs H Q=>∃B da ds d,(∀a∈B,∃o,H a=some o)∧Rep X.K B H da x∧aC X.K B H ds xs∧g da ds= .ok d∧∀z H',aN H H'→Rep X.K B H' d z→Q z H'):=by
 intro pins s σ H x xs v us Q I rx rxs ⟨B,da,ds,d,hb,ra,rs,hg,q⟩
 exact dg (h pins s σ H B da d ds x xs v us I hb rx rxs ra rs hg) fun z s' ⟨zv,H',I',r',s1,r1⟩=>⟨zv,H',I',r',q zv H' s1 r1⟩
theorem ET{T id:String}{name:Str}{g:D→List D→R D}{o e:Expr}{es:List Expr}{f:FD}{fs:aw→R (List D)}{apos cpos:Pos}(pa:PlainAttrs T)(slot:Slot T name id)(hty:typeOf (.builtin id)=pure (.type "method_descriptor"))(hm:F8 X id g)(ho:PD X o f)(ha:xt X (e ::es) fs)
 (hT:T="str"∨T="int"∨T="list")
 (hbase:attributeBase o name X.env (eval o X.env)=eval o X.env:=by rfl)
 (hfew:((backTo cpos (starEach (e ::es) X.env)).all (fun x=>!x.1) && (backToKw cpos (keywordEach [] X.env)).all (fun x=>x.1.isSome)
   && decide ((e ::es).length+([]:List Keyword).length+(if([]:List Keyword).isEmpty then 0 else 1) < 30))=true:=by rfl)
 (hline:(apos.endLine==cpos.line)=true:=by rfl) (hs:starEach (e ::es) X.env=(false,eval e X.env) ::starEach es X.env:=by rfl) (hplain:(backTo cpos (starEach es X.env)).any (·.1)=false:=by rfl) :
 PD X (.Call (.Attribute o name apos) (e ::es) [] cpos) (vY T g f fs):=by
 refine(yg pa slot hty hm.r ho ha hbase hfew hline hs hplain).imp fun σ H Q ⟨Z,B,δ,d,E,hf,q⟩=>?_
 obtain⟨d1,h1,h2⟩:=R.ak hf
 obtain⟨h3,h4⟩:=R.ba h2
 obtain⟨ds,h5,h6⟩:=R.ak h4
 obtain⟨h7,h8⟩:=Bool.and_eq_true_iff.mp h3
 have h7:tyName d1=T:=by simpa using h7
 refine⟨Z,B,δ,d1,E,h1,fun v1 H1 s1 r1=>⟨?_,Z,B,δ,ds,E.same s1,h5,fun vs H2 s2 r2=>⟨B,d1,ds,d,(E.same (s1.trans s2)).bs,r1.same s2,r2,h6,fun z H' s3 r3=>q z H' (s1.trans (s2.trans s3)) r3⟩⟩⟩
 cases d1 with
 | str z=>rw [Rep.str.mp r1];exact h7.symm
 | int i=>rw [Rep.int.mp r1];exact h7.symm
 | lst es=>obtain⟨a,xs,rfl,l,_⟩:=Rep.lst.mp r1;exact .inl ⟨h7.symm,xs,l.sq⟩
 | cD=>rcases hT with z | z | z <;> (rw [z] at h7;exact absurd (show("NoneType":String)=_ from h7) (by decide))
 | bl _=>rcases hT with z | z | z <;> (rw [z] at h7;exact absurd (show("bool":String)=_ from h7) (by decide))
 | tup _=>rcases hT with z | z | z <;> (rw [z] at h7;exact absurd (show("tuple":String)=_ from h7) (by decide))
 | dct _ _=>rcases hT with z | z | z <;> (rw [z] at h7;exact absurd (show("dict":String)=_ from h7) (by decide))
noncomputable def Hi(d:D)(ds:List D):R D:=match d,ds with
 | .str sep,[.lst es]=>(match strs? es with | some ss=>R.bF (JoinOk sep ss) (.ok (.str (Str.join sep ss))) | none=> .no)
 | _,_=> .no
noncomputable abbrev PJ(X:Cx)(es:List Expr)(f:aw→R (List Str)):Prop:=
 ∀(pins:List (Addr × Obj)) (s:Shared) (σ:St) (H:Hp) (Z B:List Addr) (δ:aw) (acc:Str) (ss:List Str) (Q:VK),Inv X pins σ H s→fw X.K Z B H σ δ→f δ= .ok ss→(ss.foldl (·++·) acc).length≤sizeLine→(∀H',aN H H'→Q (.str (ss.foldl (·++·) acc)) H')→
  wpAny (model X.prog X.w) X.A (joinParts acc (evalEach es X.env)) (EP X pins σ Q) X.xe s
noncomputable def sQ:aw→R (List Str):=fun _=> .ok []
noncomputable def l_(f:FD)(g:aw→R (List Str)):aw→R (List Str):=fun δ=>(f δ).bind fun d=>match d with | .str x=>(g δ).bind fun ss=> .ok (x ::ss) | _=> .no
noncomputable def gS(g:aw→R (List Str)):FD:=fun δ=>(g δ).bind fun ss=>R.bF (decide ((ss.foldl (·++·) Str.empty).length≤sizeLine)) (.ok (.str (ss.foldl (·++·) Str.empty)))
noncomputable def qm:D→R D
 | .str x=>R.bF (decide (x.length≤sizeLine)) (.ok (.str x))
 | .int i=>R.bF (decide (i.natAbs.log2 < 1920)) (.ok (.str (toString i)))
 | _=> .no
noncomputable def q5(f:FD):FD:=fun δ=>(f δ).bind qm
noncomputable def Fy:List (D × D)→Str→R (Option D)
 | [],_=> .ok none
 | (.str y,d) ::r,x=>(Fy r x).bind fun o=> .ok (match o with | some e=>some e | none=>if y=x then some d else none)
 | _ ::_,_=> .no
noncomputable def EN(x:Str):List D:=x.cps.toList.map fun c=> .str ⟨#[c]⟩
noncomputable def JI(x:Str):It:=⟨fun i _=>i < x.cps.size,fun i H v H'=>H'=H∧∃c,x.cps[i]? =some c∧v= .str ⟨#[c]⟩,fun i _=>x.cps.size≤i⟩
noncomputable def HA(f:FD):aw→R (List D):=fun δ=>(f δ).bind fun d=>match d with | .str x=> .ok (EN x) | _=> .no
noncomputable def Jo(K:PySem.W.Frag)(a:Addr):It:=
 ⟨fun i H=>∃xs x,k3 K H a xs∧xs[i]? =some x,fun i H v H'=>∃p x,H p=none∧v= .ref p∧(∀xs,k3 K H a xs→xs[i]? =some x)∧H'=upd H p (.tup [.int i,x]),fun i H=>∃xs,k3 K H a xs∧xs.length≤i⟩
theorem pN{P:Program}{w:World}{K:PySem.W.Frag}{elts:List Expr}{k:Nat}{pos:Pos}(a e it:Addr)(hei:e≠it):Turn P w K (.Tuple elts k pos) (Jo K a) [e,it] e (fun i h=>(∃old,IsEnum h e it ((i:Nat):Int) old)∧h.IsListIter it a i) where
 mem:=by simp
 obj:=fun i h st b hb=>by
  obtain⟨⟨old,he⟩,o,ho,c,d⟩:=st
  rcases List.mem_cons.mp hb with rfl | hb
  ·exact⟨_,he,fun v z=>by cases z⟩
  ·have e:b=it:=by simpa using hb
   subst e
   exact⟨o,ho,fun v z=>by rw[d] at z;cases z⟩
 keep:=fun i h h' st k=>by
  obtain⟨⟨old,he⟩,hi⟩:=st
  exact⟨⟨old,k e (by simp) _ he⟩,hi.at fun o x=>k it (by simp) o x⟩
 item:=by
  intro X hP hw hK hc i pins s σ H E I hf st hg
  subst hP hw hK
  obtain⟨xs,x,hq,hx⟩:=hg
  obtain⟨its,rv,p,hz⟩:=I.list hq
  obtain⟨u,hu,ru⟩:=rv.get hx
  obtain⟨⟨old,he⟩,hit⟩:=st
  obtain⟨f0,f1,f2,f3,f4,f5⟩:=hf e (by simp)
  obtain⟨g0,g1,g2,g3,g4,g5⟩:=hf it (by simp)
  refine wpAny_pyNext_enum_item he hit p.isList (x:=u) (by simpa using hu) hei fun h₁ heo hit₁ ht₁ hz₁ hk₁=>⟨_,rfl,?_⟩
  refine wpAny_letOwnedTupleGo_enum heo fun h₂ he₂ hs₂=>?_
  replace hs₂:Heap.SameBut e h₁ h₂:=hs₂
  have hel:e < s.heap.objs.size:=Heap.lt_size he
  have ht₂:h₂.get? s.heap.objs.size=some {cls:= .type "tuple",data:= .seq #[.int i s.toks,u]}:=(hs₂.2 _ (Nat.ne_of_gt hel)).trans ht₁
  have kk:∀b o,b≠e→b≠it→s.heap.get? b=some o→h₂.get? b=some o:=fun b o h1 h2 q=>(hs₂.2 b h1).trans (hk₁ b o h1 h2 q)
  have hn:H s.heap.objs.size=none:=I.fresh
  have sm:aN H (upd H s.heap.objs.size (.tup [.int i,x])):=a0 hn
  have nit:∀b o,H b=some o→b≠e∧b≠it:=fun b o q=>⟨fun z=>(by rw[z,f0] at q;cases q),fun z=>(by rw[z,g0] at q;cases q)⟩
  have hok:ky X.prog X.w (upd H s.heap.objs.size (.tup [.int i,x])) h₂:=fun b ob q=>by
   by_cases hb:b=s.heap.objs.size
   ·subst hb
    rw[bc] at q
    cases q
    exact⟨by show 2≤sizeLine;decide,[.int i s.toks,u], .cons ⟨_,rfl⟩ (.cons ru .nil),⟨_,ht₂,rfl,_,rfl⟩⟩
   ·rw[bf hb] at q
    refine(I.hok b ob q).ua (fun c v hc z=>?_) (fun c z=>sm c _ z) fun c ys z=>sm c _ z
    rcases hc with rfl | hc
    ·exact kk c v (nit c _ q).1 (nit c _ q).2 z
    ·exact kk c v (nit c _ hc).1 (nit c _ hc).2 z
  have nch:∀b,b ∉ [e,it]→b≠e∧b≠it:=fun b hb=>⟨fun z=>hb (by simp [z]),fun z=>hb (by simp [z])⟩
  have I2:Inv X pins σ (upd H s.heap.objs.size (.tup [.int i,x])) {s with heap:=h₂,toks:=s.toks+1}:=by
   refine I.step (g':=s.gens) (d':=s.drawn) (ch:=[e,it]) (fun b hb=>?_) (fun b o _ _ hb q _=>kk b o (nch b hb).1 (nch b hb).2 q) (fun b o _ _ hb q _=>⟨o.slots,kk b o (nch b hb).1 (nch b hb).2 q⟩)
    (fun b o hb q n=>by rw[bf (Nat.ne_of_lt (Heap.lt_size q))];exact n) (fun b o hb q=>⟨o,kk b o (nch b hb).1 (nch b hb).2 q⟩) (fun b ys z=>sm b _ z) (fun b o u z=>sm b _ z) (fun b ps z=>⟨#[],by rw[sm b _ z];simp⟩) (fun m hm=>?_) hok I.bare
   ·rcases List.mem_cons.mp hb with rfl | hb
    ·exact⟨f3,f1,f4,f5⟩
    ·have z:b=it:=by simpa using hb
     subst z
     exact⟨g3,g1,g4,g5⟩
   ·obtain⟨o,es,ep,ho,r⟩:=hm
    exact⟨o,es,ep,kk _ o (Ne.symm f1) (Ne.symm g1) ho,r⟩
  refine⟨.ref s.heap.objs.size,_,I2,rfl,⟨s.heap.objs.size,x,hn,rfl,fun ys hy=>(by rw[I.om hy hq];exact hx),rfl⟩,⟨⟨_,by simpa using he₂⟩,hit₁.at fun o q=>(hs₂.2 it (Ne.symm hei)).trans q⟩,fun b hb=>?_⟩
  rcases List.mem_cons.mp hb with rfl | hb
  ·rw[bf (Nat.ne_of_lt hel)];exact f0
  ·have z:b=it:=by simpa using hb
   subst z
   obtain⟨o,ho,_⟩:=hit
   rw[bf (Nat.ne_of_lt (Heap.lt_size ho))];exact g0
 done:=by
  intro X hP hw hK hc i pins s σ H E I hf st hg
  subst hP hw hK
  obtain⟨xs,hq,hx⟩:=hg
  obtain⟨its,rv,p,hz⟩:=I.list hq
  obtain⟨⟨old,he⟩,hit⟩:=st
  obtain⟨g0,g1,g2,g3,g4,g5⟩:=hf it (by simp)
  have hl:=rv.length
  exact wpAny_pyNext_enum_end (I.ok.hd hc) he hit p.isList (by simp;omega) fun h' eb=>⟨rfl,I.turned (t':=s.toks) (fun b o hb q=>eb b o hb q) g0 g1 g3 g4 g5⟩
 self:=fun A i s Q E st h=>let⟨⟨_,he⟩,_⟩:=st;wpAny_pyIter_enum he h
noncomputable def dO(ds:List D):List D:=ds.zipIdx.map fun p=> .tup [.int p.2,p.1]
noncomputable def nF(f:FD):aw→R (List D):=fun δ=>(f δ).bind fun d=>match d with | .lst ds=> .ok (dO ds) | _=> .no
theorem qX{elts:List Expr}{k:Nat}{tpos:Pos}{a:Expr}{f:FD}{p pos:Pos}(h:PD X a f)(hg:Gl X "enumerate")(hm:X.mg "enumerate"=none)(hs:starEach [a] X.env=[(false,eval a X.env)]:=by rfl):Ed X (.Tuple elts k tpos) (.Call (.Name "enumerate" p) [a] [] pos) (nF f):=by
 intro pins s σ H RR I ⟨Z,B,δ,ds,E,hf,q⟩
 obtain⟨d,h1,h2⟩:=R.ak hf
 have hA:=eU h g9 hs pos pins s σ H (fun vs H1=>aN H H1∧∃v,vs=[v]∧Rep X.K B H1 d v) I ⟨Z,B,δ,d,E,h1,fun v H1 s1 r1=>⟨s1,v,rfl,r1⟩⟩
 refine Call_ (jy I hg hm boot_enumerate (PyProof.Rows.callWith_type1 (dg hA fun us s1 ⟨vs,H1,I1,r1,ss,v,ev,rr⟩=>?_) hs rfl))
 subst ev
 obtain⟨u,rfl,ru⟩:=vals1 r1
 cases d with
 | lst es=>
   cases h2
   obtain⟨b,xs,rfl,l,rs⟩:=Rep.lst.mp rr
   cases ru
   obtain⟨its,n,rv,e1,hz⟩:=I1.BS l
   refine call_enumerate_list (items:=its.toArray) ⟨_,e1,rfl,n,rfl⟩ fun h' he hit hsz kk=>wpAny_pyIter_enum he ?_
   have I2:Inv X pins σ H1 {s1 with heap:=h'}:=I1.kept (t':=s1.toks) kk
   refine⟨s1.heap.objs.size+1,[s1.heap.objs.size+1,s1.heap.objs.size],_,_,H1,rfl,I2,pN b (s1.heap.objs.size+1) s1.heap.objs.size (Nat.succ_ne_self _),⟨⟨_,he⟩,hit⟩,fun c hc=>?_,q _ H1 ss fun B' H' pr=>?_⟩
   ·have hle:s1.heap.objs.size≤c:=by
     rcases List.mem_cons.mp hc with z | hc
     ·rw[z];exact Nat.le_succ _
     ·have z:c=s1.heap.objs.size:=by simpa using hc
      rw[z];exact Nat.le_refl _
    exact I1.oV hle (I1.hok.fresh hle)
   ·have l':m5 X.K B' H' b xs:=l.bg pr
    have rs':=rs.bg pr
    refine⟨fun i d hd=>?_,⟨xs,l'.sq,by rw[←rs.length];unfold dO;simp⟩⟩
    unfold dO at hd
    rw[List.getElem?_map,List.getElem?_zipIdx] at hd
    cases e:es[i]? with
    | none=>rw [e] at hd;cases hd
    | some d0=>
      rw[e] at hd
      have hd:D.tup [.int ((0+i:Nat):Int),d0]=d:=Option.some.inj hd
      rw[Nat.zero_add] at hd
      obtain⟨x,hx,rx⟩:=rs'.get e
      refine⟨⟨xs,x,l'.sq,hx⟩,fun v H'' y hB'=>?_⟩
      obtain⟨p,y,hp,rfl,hy,rfl⟩:=y
      refine⟨a0 hp,?_⟩
      subst hd
      have hy2:=hy xs l'.sq
      rw[hx] at hy2
      cases hy2
      refine Rep.tup.mpr ⟨p,_,rfl, .inl ⟨fun ha=>?_, .inl bc⟩,aC.cons (Rep.int.mpr rfl) (aC.cons (rx.same (a0 hp)) aC.nil)⟩
      obtain⟨o,ho⟩:=hB' p ha
      rw[hp] at ho;cases ho
 | _=>cases h2
end
end L2
end
section
set_option maxRecDepth 100000
set_option maxHeartbeats 4000000
namespace L2
open PySem PySem.Spec PyProof.Rows
noncomputable def Def(K:PySem.W.Frag)(mg:Str→Option Value)(x:Str)(st:Stmt):Prop:=∃f fd,vd K x x st f fd∧mg x=some (.ref f)
noncomputable def Callee(P:Program)(w:World)(K:PySem.W.Frag)(mg:Str→Option Value)(base:Heap)(k:Nat)(x:Str)(n:Nat)(g:List D→R D):Prop:=
 ∃f fd ps,gC P w K mg base pP k f fd ps (zS K n g)∧mg x=some (.ref f)∧PySem.W.keepIn K (.ref f)=true∧Binds K fd ps []
theorem cx:∀(δ:aw) (ds:List D),aI δ= .ok ds→ds.length=0:=fun δ ds h=>by cases h;rfl
theorem aV{f:FD}{g:aw→R (List D)}{n:Nat}(h:∀(δ:aw) (ds:List D),g δ= .ok ds→ds.length=n):∀(δ:aw) (ds:List D),au f g δ= .ok ds→ds.length=n+1:=fun δ ds e=>by
 obtain⟨d,h1,h2⟩:=R.ak e
 obtain⟨es,h3,h4⟩:=R.ak h2
 cases h4
 rw[List.length_cons,h δ es h3]
theorem xn{P:Program}{w:World}{K:PySem.W.Frag}{mg:Str→Option Value}{base:Heap}{x qual:Str}{st:Stmt}{f:Addr}{fd:FuncData}{N ps:List Str}{k:Nat}{F:FS}{b:List Stmt}{sc:Scope}(hb:aq st=b)(hs:ag st=sc)(Fn:vd K x qual st f fd)(S:aX N ps sc)
 (hbody:∀(cdv:Value) (A:Around) (outer:List Env) (s:Shared) (H:Hp) (E:XK),dG k (A.deeper (envOfC qual sc s.heap.objs.size f cdv))→
   oY (nu pP P w K mg base N qual sc f cdv A outer s H E).A2 b F):gC P w K mg base pP (k+1) f fd ps (zS K ps.length (mH N F)):=by
 subst hb hs
 exact A4 Fn S hbody
section
variable {X:Cx}
theorem xS{g:List D→R D}{k j n:Nat}{x:Str}{p pos:Pos}{e:Expr}{es:List Expr}{fs:aw→R (List D)}(C:Callee X.prog X.w X.K X.mg X.base k x n g)(hr:dG j X.A)(hkj:k≤j)(hg:Gl X x)(ha:xt X (e ::es) fs)
 (hn:∀δ ds,fs δ= .ok ds→ds.length=n) (hdb:(x==("__debug__":Str))=false:=by decide) (he:starEach (e ::es) X.env=(false,eval e X.env) ::starEach es X.env:=by rfl) (hpl:(backTo pos (starEach es X.env)).any (·.1)=false:=by rfl) :
 PD X (.Call (.Name x p) (e ::es) [] pos) (aK g fs):=by
 obtain⟨f,fd,ps,F,hm,hk,hb⟩:=C
 exact Ax F (hr.mono hkj) hg hm hk hb ha hn hdb he hpl
noncomputable def FU(sc:Scope)(N:List Str)(scope:Scope)(kp:List Nat)(kn:List Str):Bool:=
 decide (scope.kind= .function) && scope.names.all (fun y=>decide (y.2≠ .cell)) && scope.names.all (fun y=>decide (y.2= .local→scope.names.lookup y.1=some .local))
  && scope.names.all (fun y=>decide (y.2= .free→(sc.names.lookup y.1=some .cell∨sc.names.lookup y.1=some .free))) && decide (kn.length=kp.length)
  && (List.range kp.length).all (fun j=>decide ((kp[j]?).bind (N[·]?)=kn[j]?)) && kn.all (fun x=>decide (scope.names.lookup x=some .free))
theorem b_.of{scope:Scope}{own:List Str}{kp:List Nat}{kn:List Str}{sc:Scope}{N:List Str}(h1:X.env.scope=sc)(h2:X.N=N)(h:FU sc N scope kp kn=true):b_ X scope own kp kn:=by
 unfold FU at h
 simp only[Bool.and_eq_true,decide_eq_true_eq,List.all_eq_true] at h
 obtain⟨⟨⟨⟨⟨⟨a1,a2⟩,a3⟩,a4⟩,a5⟩,a6⟩,a7⟩:=h
 refine⟨a1,a2,a3,fun y hy hf=>?_,a5,fun j i x hj hx=>?_,a7⟩
 ·have:=a4 y hy hf
  unfold Env.kindOf
  rw[h1]
  exact this
 ·have hlt:j < kp.length:=(List.getElem?_eq_some_iff.mp hj).1
  have:=a6 j (List.mem_range.mpr hlt)
  rw[hj] at this
  rw[h2]
  exact this.trans hx
noncomputable def DB(kvs:List (Key × V))(f g:FD):FD:=fun δ=>(f δ).bind fun k=>(g δ).bind fun d=>match k with
 | .str x=>(match jG (hV [] kvs) (Sum.inr x) with | some (.int i)=> .ok (.int i) | none=> .ok d | _=> .no)
 | _=> .no
theorem DL{keys:List (Option Expr)}{values:List Expr}{trs:List (TE × TE)}{dpos apos cpos:Pos}{e f:Expr}{fe ff:FD}{kvs:List (Key × V)}(hu:X.A.units+1 < cLine)(h:Ei X dpos keys values trs)(hall:keys.all (·.isSome)=true)(hl:keys.length=values.length)(h0:keys≠[])
 (hc:∀σ H Q,Q (kvs.map fun kv=>(kV kv.1,kv.2)) H→m_ trs σ H Q) (hlen:kvs.length≤15) (he:PD X e fe) (hf:PD X f ff) (m:M2 X (.Dict keys values dpos) "get" apos e f cpos)
 (hd:PE X (.Dict keys values dpos) (zB trs)):PD X (.Call (.Attribute (.Dict keys values dpos) "get" apos) [e,f] [] cpos) (DB kvs fe ff):=by
 refine(zo hu hd he hf m).imp fun σ H Q ⟨Z,B,δ,d,E,hfd,q⟩=>?_
 obtain⟨k,h1,h2⟩:=R.ak hfd
 obtain⟨dd,h3,h4⟩:=R.ak h2
 intro p hp
 refine hc σ _ _ ⟨bc,kvs,rfl,hlen,p,rfl, .inl ⟨_, .inl bc⟩,?_⟩
 rw[Aw]
 have s0:aN H (upd H p (.dK (hV [] kvs))):=a0 hp
 refine⟨Z,B,δ,k,E.same s0,h1,fun v1 H1 s1 r1=>⟨Z,B,δ,dd,(E.same s0).same s1,h3,fun v2 H2 s2 r2=>?_⟩⟩
 have hH2:H2 p=some (.dK (hV [] kvs)):=s2 p _ (s1 p _ bc)
 have sA:aN H H2:=s0.trans (s1.trans s2)
 split at h4
 ·rename_i x
  refine⟨jG (hV [] kvs) (Sum.inr x),?_,?_⟩
  ·rw[Rep.str.mp r1];exact oJ.k (k:=Sum.inr x) hH2
  ·split at h4
   ·rename_i i e1
    cases h4
    rw[e1]
    exact q _ H2 sA (Rep.int.mpr rfl)
   ·rename_i e1
    cases h4
    rw[e1]
    exact q _ H2 sA r2
   ·cases h4
 ·cases h4
noncomputable def l4(i:Nat)(f:FD):FS:=fun δ=>(f δ).bind fun d=>match d with
 | .lst es=>(jB δ i).bind fun ds=>R.bF (decide (ds.length+es.length≤sizeLine)) (.ok (.nx (δ.set i (.bld (ds++es)))))
 | _=> .no
end
end L2
end
section
set_option maxRecDepth 100000
set_option maxHeartbeats 4000000
namespace L2
open PySem PySem.Spec PyProof.Rows
structure QD (X:Cx) (e:Expr) (f:FD):Prop where
 h:PD X e f
structure QN (X:Cx) (e:Expr) (f:aw→R (List D)):Prop where
 h:PN X e f
structure QB (X:Cx) (e:Expr) (f:aw→R Bool):Prop where
 h:PB X e f
structure Cy (X:Cx) (e:Expr) (f:aw→R Bool):Prop where
 h:zR X e f
structure AO (X:Cx) (e:List Expr) (f:aw→R (List D)):Prop where
 h:xt X e f
structure Ee (X:Cx) (e:Stmt) (f:FS):Prop where
 h:Dj X e f
structure q_ (X:Cx) (e:List Stmt) (f:FS):Prop where
 h:oY X e f
structure Em (X:Cx) (e:Expr) (f:FT):Prop where
 h:D_ X e f
structure AB (X:Cx) (e:List Expr) (f:zk):Prop where
 h:yH X e f
structure vJ (X:Cx) (tg e:Expr) (f:aw→R (List D)):Prop where
 h:Ed X tg e f
structure QP (X:Cx) (e:Option Expr) (f:FO):Prop where
 h:PP X e f
structure QJ (X:Cx) (e:List Expr) (f:aw→R (List Str)):Prop where
 h:PJ X e f
structure FR (X:Cx) (e:List Expr) (c:aw→R Bool):Prop where
 h:mO X e (D8 X.K c)
section
variable {X:Cx}
theorem c7{e:Expr}{f:aw→R (List D)}(h:QN X e f):QD X e (eNew f):=⟨CO h.1⟩
theorem aa(i:Nat){x:Str}{pos:Pos}(hN:X.N[i]? =some x:=by rfl)(hv:D9 X.env.scope x:=by first | exact Or.inl rfl | exact Or.inr (Or.inl rfl) | exact Or.inr (Or.inr rfl))(hd:(x==("__debug__":Str))=false:=by decide)(hcd:(x==("__classdict__":Str))=false:=by decide):QD X (.Name x pos) (ai i):=⟨De i hN hv hd hcd⟩
theorem af{i j pos}:QD X (.Constant (.int i) j pos) (eC (.int i)):=⟨Dg⟩
theorem tm{b j pos}:QD X (.Constant (.bool b) j pos) (eC (.bl b)):=⟨EY⟩
theorem z_{j pos}:QD X (.Constant .none j pos) (eC .cD):=⟨Ce⟩
theorem bp{x j pos}:QD X (.Constant (.str x) j pos) (eC (.str x)):=⟨DZ⟩
theorem aj:AO X [] aI:=⟨Bw⟩
theorem ab{e:Expr}{es:List Expr}{f:FD}{g:aw→R (List D)}(h:QD X e f)(t:AO X es g)(hs:starEach (e ::es) X.env=(false,eval e X.env) ::starEach es X.env:=by rfl):AO X (e ::es) (au f g):=⟨zu h.1 t.1 hs⟩
theorem bC{es:List Expr}{g:aw→R (List D)}{x1 pos}(h:AO X es g):QD X (.Tuple es x1 pos) (dv g):=⟨Ck h.1⟩
theorem bR{es:List Expr}{g:aw→R (List D)}{pos}(h:AO X es g):QN X (.List es pos) (dE g):=⟨D0 h.1⟩
theorem aL{op:Operator}{g:D→D→R D}{a b:Expr}{fa fb:FD}{pos:Pos}(ho:iM X (binaryOp op) g)(ha:QD X a fa)(hb:QD X b fb):QD X (.BinOp a op b pos) (e2 g fa fb):=⟨FV ho ha.1 hb.1⟩
theorem vf{op:CmpOp}{g:D→D→R D}{a b:Expr}{fa fb:FD}{pos:Pos}(ho:iM X (compareOp op) g)(ha:QD X a fa)(hb:QD X b fb)(hm:behindInMarks op b=false):QD X (.Compare a [op] [b] pos) (e2 g fa fb):=⟨C8 ho ha.1 hb.1 hm⟩
theorem bV{op:CmpOp}{g:D→D→R D}{a b:Expr}{fa fb:FD}{pos:Pos}(ho:iM X (compareOp op) g)(ha:QD X a fa)(hb:QD X b fb)(hm:behindInMarks op b=false):QB X (.Compare a [op] [b] pos) (b2 g fa fb):=⟨B7 ho ha.1 hb.1 hm⟩
theorem Bq{a:Expr}{f:FD}(ha:QD X a f)(he:∀whole,isTrue a X.env whole=(do let v ←whole;standAt a.pos;holding [v] (truthy v)):=by intro _;rfl):QB X a (oC f):=⟨DH ha.1 he⟩
theorem mW{e:Expr}{f:aw→R Bool}(h:Cy X e f):QB X e f:=⟨zR.pb h.1⟩
theorem pL{a:Expr}{f:aw→R Bool}{pos:Pos}(h:QB X a f):Cy X (.BoolOp .And [a] pos) f:=⟨y1 h.1⟩
theorem rG{a:Expr}{f:aw→R Bool}{pos:Pos}(h:QB X a f):Cy X (.BoolOp .Or [a] pos) f:=⟨By h.1⟩
theorem sk{a b:Expr}{rest:List Expr}{f g:aw→R Bool}{pos:Pos}(ha:QB X a f)(hb:Cy X (.BoolOp .And (b ::rest) pos) g):Cy X (.BoolOp .And (a ::b ::rest) pos) (kq f g):=⟨Bb ha.1 hb.1⟩
theorem vM{a b:Expr}{rest:List Expr}{f g:aw→R Bool}{pos:Pos}(ha:QB X a f)(hb:Cy X (.BoolOp .Or (b ::rest) pos) g):Cy X (.BoolOp .Or (a ::b ::rest) pos) (qR f g):=⟨CB ha.1 hb.1⟩
theorem A7{a:Expr}{f:aw→R Bool}{pos:Pos}(ha:QB X a f):QB X (.UnaryOp .Not a pos) (nM f):=⟨C4 ha.1⟩
theorem t7{c a b:Expr}{fc:aw→R Bool}{f g:FD}{pos:Pos}(hc:QB X c fc)(ha:QD X a f)(hb:QD X b g):QD X (.IfExp c a b pos) (tq fc f g):=⟨EI hc.1 ha.1 hb.1⟩
theorem aU{g:List D→R D}{x:Str}{id:String}{p pos:Pos}{e:Expr}{es:List Expr}{fs:aw→R (List D)}(hc:cL X (.builtin id) g)(hg:Gl X x)(hm:X.mg x=none)(hv:bootBuiltins x=some (.builtin id))(ha:AO X (e ::es) fs)(hn:x≠"__name__":=by decide)(hdb:(x==("__debug__":Str))=false:=by decide)(he:starEach (e ::es) X.env=(false,eval e X.env) ::starEach es X.env:=by rfl)(hpl:(backTo pos (starEach es X.env)).any (·.1)=false:=by rfl):QD X (.Call (.Name x p) (e ::es) [] pos) (aK g fs):=⟨yP hc hg hm hv ha.1 hn hdb he hpl⟩
theorem fD{g:List D→R D}{x:Str}{T:String}{p pos:Pos}{e:Expr}{es:List Expr}{fs:aw→R (List D)}(hc:cL X (.type T) g)(hg:Gl X x)(hm:X.mg x=none)(hv:bootBuiltins x=some (.type T))(ha:AO X (e ::es) fs)(hn:x≠"__name__":=by decide)(hdb:(x==("__debug__":Str))=false:=by decide)(he:starEach (e ::es) X.env=(false,eval e X.env) ::starEach es X.env:=by rfl)(hpl:(backTo pos (starEach es X.env)).any (·.1)=false:=by rfl):QD X (.Call (.Name x p) (e ::es) [] pos) (aK g fs):=⟨wG hc hg hm hv ha.1 hn hdb he hpl⟩
theorem fR:q_ X [] i9:=⟨z9⟩
theorem cu{st:Stmt}{rest:List Stmt}{F G:FS}(h1:Ee X st F)(h2:q_ X rest G):q_ X (st ::rest) (eN F G):=⟨xR h1.1 h2.1⟩
theorem bH{st:Stmt}{F:FS}(h1:Ee X st F):q_ X [st] F:=⟨Bt h1.1⟩
theorem iA{i:Nat}{x:Str}{e:Expr}{f:FD}{pos pos':Pos}(hN:X.N.Nodup)(hi:X.N[i]? =some x)(hx:Loc X.env.scope x)(he:QD X e f)(hs:swapsWith e (some (.Name x pos')) pos.line X.env=pure false:=by rfl)(hf:X.fn x=true∨X.env.scope.names.lookup x=some .local:=by first | exact .inl rfl | exact .inr rfl | assumption):Ee X (.Assign [.Name x pos'] e pos) (iI i f):=⟨Bh hN hi hx he.1 hs hf⟩
theorem bO{e:Expr}{f:FD}{pos:Pos}(he:QD X e f):Ee X (.Return (some e) pos) (el f):=⟨Bd he.1⟩
theorem gO{c:Expr}{a b:List Stmt}{fc:aw→R Bool}{F G:FS}{pos:Pos}(hc:QB X c fc)(ha:q_ X a F)(hb:q_ X b G):Ee X (.If c a b pos) (nU fc F G):=⟨CH hc.1 ha.1 hb.1⟩
theorem dC{i:Nat}{x:Str}{pos:Pos}(hN:X.N.Nodup)(hi:X.N[i]? =some x)(hx:Loc X.env.scope x)(hf:X.fn x=true∨X.env.scope.names.lookup x=some .local:=by first | exact .inl rfl | exact .inr rfl | assumption):Em X (.Name x pos) (cy i):=⟨yd hN hi hx hf⟩
theorem pI:AB X [] je:=⟨xO⟩
theorem iJ{e:Expr}{es:List Expr}{t:FT}{u:zk}(h1:Em X e t)(h2:AB X es u)(hs:(assignEach (e ::es) X.env).map (·.2)=assign e X.env ::(assignEach es X.env).map (·.2):=by rfl):AB X (e ::es) (eW t u):=⟨wA h1.1 h2.1 hs⟩
theorem rS{es:List Expr}{k:Nat}{t:zk}{n:Nat}{pos:Pos}(hc:X.calm=true)(h:AB X es t)(hn:(assignEach es X.env).length=n:=by rfl)(hst:(assignEach es X.env).findIdx? (·.1)=none:=by rfl):Em X (.Tuple es k pos) (jb n t):=⟨Ae hc h.1 hn hst⟩
theorem eR{tg e:Expr}{f:FD}(h:QD X e f):vJ X tg e (gB f):=⟨z8 h.1⟩
theorem cm{tg a:Expr}{f:FD}{p pos:Pos}(h:QD X a f)(hg:Gl X "range")(hm:X.mg "range"=none)(hs:starEach [a] X.env=[(false,eval a X.env)]:=by rfl):vJ X tg (.Call (.Name "range" p) [a] [] pos) (eg f):=⟨tH h.1 hg hm hs⟩
theorem sN{tg iter:Expr}{body:List Stmt}{it:aw→R (List D)}{t:FT}{F:FS}{pos:Pos}(hp:PassesOwn (model X.prog X.w) X.A X.env X.xe)(hc:X.calm=true)(hi:vJ X tg iter it)(hg:Em X tg t)(hb:q_ X body F)(hs:∀x,foldedSetIterable iter X.env x=pure x:=by intro _;rfl):Ee X (.For tg iter body [] pos) (v_ it t F):=⟨Ad hp hc hi.1 hg.1 hb.1 hs⟩
theorem iF{scope:Scope}{own:List Str}{kp:List Nat}{kn:List Str}{tg iter elt:Expr}{ifs:List Expr}{it:aw→R (List D)}{t:FT}{c:aw→R Bool}{f:FD}{pos:Pos}(hc:X.calm=true)(C:b_ X scope own kp kn)(hi:vJ X tg iter it)(hg:∀fp s H,Em (bu X scope (own++kn) fp s H) tg t)(hif:∀fp s H,FR (bu X scope (own++kn) fp s H) ifs c)(he:∀fp s H,QD (bu X scope (own++kn) fp s H) elt f)(hs:∀x,foldedSetIterable iter X.env x=pure x:=by intro _;rfl):QN X (.ListComp elt [⟨tg,iter,ifs,0⟩] scope pos) (jE it t c f own kp):=⟨z7 hc C hi.1 (fun fp s H=>(hg fp s H).1) (fun fp s H=>(hif fp s H).1) (fun fp s H=>(he fp s H).1) hs⟩
theorem gp:FR X [] sg:=⟨xI⟩
theorem aH{a b:Expr}{fa fb:FD}{pos:Pos}(ha:QD X a fa)(hb:QD X b fb)(hs:mP b):QD X (.Subscript a b pos) (e2 cw fa fb):=⟨FE ha.1 hb.1 hs⟩
theorem y9:QP X none jF:=⟨Ap⟩
theorem ni{e:Expr}{f:FD}(h:QD X e f):QP X (some e) (iu f):=⟨An h.1⟩
theorem xW{e:Expr}{lo hi:Option Expr}{f:FD}{fl fh:FO}{p2 pos:Pos}(he:QD X e f)(hl:QP X lo fl)(hh:QP X hi fh):QD X (.Subscript e (.Slice lo hi none p2) pos) (vO f fl fh):=⟨Fz he.1 hl.1 hh.1⟩
theorem wb{elts:List Expr}{k:Nat}{tpos:Pos}{a:Expr}{f:FD}{p pos:Pos}(h:QD X a f)(hg:Gl X "enumerate")(hm:X.mg "enumerate"=none)(hs:starEach [a] X.env=[(false,eval a X.env)]:=by rfl):vJ X (.Tuple elts k tpos) (.Call (.Name "enumerate" p) [a] [] pos) (nF f):=⟨qX h.1 hg hm hs⟩
theorem c8{P:Program}{w:World}{K:PySem.W.Frag}{mg:Str→Option Value}{base:Heap}{x qual:Str}{st:Stmt}{f:Addr}{fd:FuncData}{N ps:List Str}{k:Nat}{F:FS}{b:List Stmt}{sc:Scope}(hb:aq st=b)(hs:ag st=sc)(Fn:vd K x qual st f fd)(S:aX N ps sc)(hbody:∀(cdv:Value) (A:Around) (outer:List Env) (s:Shared) (H:Hp) (E:XK),dG k (A.deeper (envOfC qual sc s.heap.objs.size f cdv))→
 q_ (nu pP P w K mg base N qual sc f cdv A outer s H E).A2 b F):gC P w K mg base pP (k+1) f fd ps (zS K ps.length (mH N F)):=xn hb hs Fn S (fun cdv A outer s H E hr=>(hbody cdv A outer s H E hr).1)
theorem bW{g:List D→R D}{k j n:Nat}{x:Str}{p pos:Pos}{e:Expr}{es:List Expr}{fs:aw→R (List D)}(C:Callee X.prog X.w X.K X.mg X.base k x n g)(hr:dG j X.A)(hkj:k≤j)(hg:Gl X x)(ha:AO X (e ::es) fs)(hn:∀δ ds,fs δ= .ok ds→ds.length=n)(hdb:(x==("__debug__":Str))=false:=by decide)(he:starEach (e ::es) X.env=(false,eval e X.env) ::starEach es X.env:=by rfl)(hpl:(backTo pos (starEach es X.env)).any (·.1)=false:=by rfl):QD X (.Call (.Name x p) (e ::es) [] pos) (aK g fs):=⟨xS C hr hkj hg ha.1 hn hdb he hpl⟩
theorem A5{keys:List (Option Expr)}{values:List Expr}{trs:List (TE × TE)}{dpos apos cpos:Pos}{e f:Expr}{fe ff:FD}{kvs:List (Key × V)}(hu:X.A.units+1 < cLine)(h:Ei X dpos keys values trs)(hall:keys.all (·.isSome)=true)(hl:keys.length=values.length)(h0:keys≠[])(hc:∀σ H Q,Q (kvs.map fun kv=>(kV kv.1,kv.2)) H→m_ trs σ H Q)(hlen:kvs.length≤15)(he:QD X e fe)(hf:QD X f ff)(m:M2 X (.Dict keys values dpos) "get" apos e f cpos)(hd:PE X (.Dict keys values dpos) (zB trs)):QD X (.Call (.Attribute (.Dict keys values dpos) "get" apos) [e,f] [] cpos) (DB kvs fe ff):=⟨DL hu h hall hl h0 hc hlen he.1 hf.1 m hd⟩
end
end L2
end
section
set_option maxRecDepth 100000
set_option maxHeartbeats 4000000
namespace L2
open PySem PySem.Spec PyProof.Rows
theorem wo{P:Program}{w:World}{K:PySem.W.Frag}{mg mb:Str→Option Value}{CX:xC}{k:Nat}{fa a:Addr}{fd:FuncData}{x:Str}{sp:Sp}{s₁:Shared}{vs:List Value}{ns:List Int}
 (KX:K.In s₁.heap) (hns:s₁.heap.Ns mainGlobals mg) (hb:s₁.heap.Ns builtinsNs mb) (hbb:∀x:Str,x≠"__name__"→mb x=bootBuiltins x) (hlim:s₁.heap.NoLimit) (hg:s₁.gens=#[])
 (ha:s₁.heap.get? a=some {cls:= .type "list",data:= .seq vs.toArray}) (hi:IntsAre vs ns) (hl:ns.length≤sizeLine) (hr:dG k callerA)
 (F:∀base:Heap,K.In base→base.Ns mainGlobals mg→gC P w K mg base CX k fa fd [x] sp) (hbind:∀(s:Shared) (u:Value),BindsTo s fd ⟨[u],[]⟩ [(x,u)])
 (hsp:∀H:Hp,EB H→m5 K [] H a (ns.map V.int)→sp [.ref a] H (fun v _=>v= .bl true) fun _ _ _=>False)
 (hCX:∀H e s',CX [] H s₁ (fun _ _ _=>False) e s'→False) :
 codeAny (model P w) callerA (.call (.ref fa) ⟨[.ref a],[]⟩) (fun r s'=>r= .ok (.ret (.bool true))∧OldK s₁.heap s'.heap∧s'.os=s₁.os∧AllBare s'.gens) s₁:=by
 have rv:=pC hi
 have lenV:=hi.length
 have core:∀H:Hp,EB H→m5 K [] H a (ns.map V.int)→ky P w H s₁.heap→(∀b,H b≠none→b=a)→(H a≠none→K.lookup a=none)→
  codeAny (model P w) callerA (.call (.ref fa) ⟨[.ref a],[]⟩) (fun r s'=>r= .ok (.ret (.bool true))∧OldK s₁.heap s'.heap∧s'.os=s₁.os∧AllBare s'.gens) s₁:=by
  intro H hO hS hok hA hK
  have base_of:∀{b:Addr} {o:Obj},s₁.heap.get? b=some o→H b=none→(qv s₁.heap H).get? b=some o:=fun e n=>xp e n
  have noA:∀{b:Addr} {o:Obj} {es:Array DictEntry} {ep:Nat},s₁.heap.get? b=some o→o.data= .dict es ep→H b=none:=fun {b o es ep} e d=>by
   cases q:H b with
   | none=>rfl
   | some u=>
     have e':b=a:=hA b (by rw[q];simp)
     subst e'
     rw[ha] at e;cases e
     have d':Data.seq vs.toArray _=Data.dict es ep:=d
     cases d'
  have nsK:∀{b:Addr} {m:Str→Option Value},s₁.heap.Ns b m→(qv s₁.heap H).Ns b m:=fun {b m} ⟨o,es,ep,e,d,r⟩=>⟨o,es,ep,base_of e (noA e d),d,r⟩
  have hKb:K.In (qv s₁.heap H):=fun b o e=>base_of (KX b o e) (by
   cases q:H b with
   | none=>rfl
   | some u=>
     have e':b=a:=hA b (by rw[q];simp)
     subst e'
     rw[hK (by rw[q];simp)] at e;cases e)
  have hM:Mod K mg (qv s₁.heap H):=⟨hKb,nsK hns,⟨mb,nsK hb,hbb⟩,let⟨mc,h1,h2⟩:=hlim;⟨mc,nsK h1,h2⟩⟩
  have e0:ui P w K mg (qv s₁.heap H) callerA [] s₁ H:=⟨rfl,hM,fun b o e=>Bu e,Nat.le_of_eq (wY _ _),trivial,fun b hb=>absurd (show b∈([]:List Addr) from hb) (by simp),hok, .of_eq hg⟩
  refine codeAny_mono ((F _ hKb (nsK hns)).run callerA [] s₁ H ⟨[.ref a],[]⟩ [.ref a] [.ref a] _ _ hr e0 (hbind s₁ (.ref a)) (.cons rfl .nil) (hsp H hO hS)) fun r s' h=>?_
  cases r with
  | error e=>exact(hCX H e s' h).elim
  | ok fl=>
    cases fl with
    | next=>exact False.elim h
    | brk=>exact False.elim h
    | cont=>exact False.elim h
    | ret u=>
      obtain⟨v,H',os,bare,un,hok',r',q⟩:=h
      have q':v= .bl true:=q
      subst q'
      obtain rfl:u=Value.bool true:=r'
      refine⟨rfl,OldK.of_keep fun b o e=>?_,os,bare⟩
      cases q:H b with
      | none=>exact un.keep b o e q (by intro z;exact absurd (show b∈([]:List Addr) from z) (by simp)) (by simp)
      | some u=>
        rcases hO b with z | ⟨ob,xs,z⟩
        ·rw[q] at z;cases z
        ·have z2:=un.frzs b ob _ z
         obtain⟨e1,_⟩:=hok b _ z
         obtain⟨e2,_⟩:=hok' b _ z2
         rw[e] at e1;cases e1
         exact e2
 cases hk:K.lookup a with
 | some o=>
   have e:=KX a o hk
   rw[ha] at e
   cases e
   refine core (fun _=>none) (fun _=> .inl rfl) (.inr ⟨vs,_,hk,by rw[List.length_map];exact hl,rv⟩) (fun b u z=>by have z':(none:Option HO)=some u:=z;cases z') (fun b z=>absurd rfl z) fun z=>absurd rfl z
 | none=>
   refine core (fun b=>if b=a then some (.g6 {cls:= .type "list",data:= .seq vs.toArray} (.lst (ns.map V.int))) else none) (fun b=>?_) (.inl ⟨by simp, .inr ⟨{cls:= .type "list",data:= .seq vs.toArray},if_pos rfl⟩⟩) (fun b u z=>?_) (fun b z=>?_) fun _=>hk
   ·by_cases hb:b=a
    ·exact .inr ⟨_,_,if_pos hb⟩
    ·exact .inl (if_neg hb)
   ·by_cases hb:b=a
    ·have z':=(if_pos hb).symm.trans z
     cases z'
     subst hb
     exact⟨ha,by rw[List.length_map];exact hl,vs,_,rv,ha⟩
    ·have z':=(if_neg hb).symm.trans z
     cases z'
   ·by_cases hb:b=a
    ·exact hb
    ·exact absurd (if_neg hb) z
theorem ints_rep{K:PySem.W.Frag}{B:List Addr}{H:Hp}:∀ns:List Int,aC K B H (ns.map D.int) (ns.map V.int)
 | []=>aC.nil
 | n ::ns=>aC.cons (Rep.int.mpr rfl) (ints_rep ns)
theorem FK{l:PySem.W.OpenLaw}{n k:Nat}{q:Program}{loose:List Str}{XP:(Str→Option Value)→Heap→Prop}{YP:World→Heap→Prop}{d:DefRec}{K:Params→PySem.W.Frag}{x:Str}{g:List D→R D}
 (hn:l.most=some n) (hn2:n≤sizeLine) (hdf:d.params.defaults=[]) (hr:dG k callerA) (hY:∀(w:World) (h:Heap),YP w h→(K w.params).In h)
 (F:∀(w:World) (mg:Str→Option Value) (fa:Addr) (h:Heap),(K w.params).In h→h.Ns mainGlobals mg→mg d.name=some (.ref fa)→
   ∃fd:FuncData,(∀(s:Shared) (u:Value),BindsTo s fd ⟨[u],[]⟩ [(x,u)])∧∀base:Heap,(K w.params).In base→base.Ns mainGlobals mg→gC l.prog w (K w.params) mg base pP k fa fd [x] (zS (K w.params) 1 g))
 (hg:∀ns:List Int,ns.length≤n→g [.lst (ns.map D.int)]= .ok (.bl true)):PySem.W.WalkO q loose XP YP l.row.toRowW d [] (fun f vs=>PySem.call f vs):=by
 refine Att.sM hn hdf fun w s₀ s₁ mg mb fa o pm cd doc a vs ns G Y ho hd hcd hmg hobj hints hlen hgen=>?_
 have KX:=hY w _ Y
 obtain⟨fd,hb,hF⟩:=F w mg fa _ KX G.T.g hmg
 refine wo KX G.T.g G.T.b G.T.builtins G.T.nolimit hgen hobj hints (Nat.le_trans hlen hn2) hr hF hb (fun H hO hS=>?_) fun H e s' h=>h
 refine⟨rfl,[],[.lst (ns.map D.int)], .bl true,fun b hb=>(by cases hb),aC.cons (Rep.lst.mpr ⟨_,_,rfl,hS,ints_rep ns⟩) aC.nil,hg ns hlen,fun z H' _ r=>Rep.bl.mp r⟩
theorem cf{K:PySem.W.Frag}{h:Heap}{mg:Str→Option Value}{x:Str}{st:Stmt}{f:Addr}{oc:Value}{od an:Option Addr}{osl:Array (Option Value)}{kV doc pm cdv ct:Value}(X:K.In h)(G:h.Ns mainGlobals mg)(a:PySem.W.nsIn K mainGlobals x=some (some (.ref f)))
 (l:K.lookup f=some ⟨oc,od, .func (PySem.W.fnOf x x (gc st) (aq st) (ag st) .none kV doc pm an cdv ct),osl⟩) (c:PySem.W.codeIn K cdv x=true) (k:PySem.W.keepIn K (.ref f)=true):Def K mg x st:=
 ⟨f,_,nY l c k,PySem.W.mg_of X G a⟩
end L2
end
section
set_option maxRecDepth 100000
set_option maxHeartbeats 4000000
namespace L2
open PySem PySem.Spec PyProof.Rows
theorem nP{t:FT}{body:FS}:∀(ds:List D) (n:Nat) (P:Nat→aw→Prop) {δ:aw},P n δ→
 (∀i d δ,ds[i]? =some d→P (n+i) δ→∃δ',((t d δ).bind body)= .ok (.nx δ')∧P (n+i+1) δ')→∃δ',l3 t body ds δ= .ok (.nx δ')∧P (n+ds.length) δ'
 | [],n,P,δ,h0,_=>⟨δ,rfl,h0⟩
 | d ::ds,n,P,δ,h0,hs=>by
   obtain⟨δ1,e1,p1⟩:=hs 0 d δ rfl h0
   obtain⟨δ2,e2,p2⟩:=nP ds (n+1) P p1 (fun i d' δ' hi hp=>by
    have:=hs (i+1) d' δ' (by simpa using hi) (by rw[show n+(i+1)=n+1+i by omega];exact hp)
    rw[show n+(i+1)+1=n+1+i+1 by omega] at this
    exact this)
   refine⟨δ2,?_,by rw[List.length_cons,show n+(ds.length+1)=n+1+ds.length by omega];exact p2⟩
   obtain⟨δ0,h1,h2⟩:=R.ak e1
   show(t d δ).bind (fun δ1=>(body δ1).bind fun o=>match o with | .nx δ2=>l3 t body ds δ2 | .rt r=> .ok (.rt r))=_
   rw[h1,R.aS,h2,R.aS]
   exact e2
theorem o9{t:FT}{body:FS}{ds:List D}(P:Nat→aw→Prop){δ:aw}(h0:P 0 δ)
 (hs:∀i d δ,ds[i]? =some d→P i δ→∃δ',((t d δ).bind body)= .ok (.nx δ')∧P (i+1) δ'):∃δ',l3 t body ds δ= .ok (.nx δ')∧P ds.length δ':=by
 have:=nP (t:=t) (body:=body) ds 0 P h0 (fun i d δ hi hp=>by simpa using hs i d δ hi (by simpa using hp))
 simpa using this
theorem yX{α:Type} [DecidableEq α]:∀(L F:List α),L.Nodup→(∀x∈L,x∈F)→L.length≤F.length
 | [],_,_,_=>Nat.zero_le _
 | x ::L,F,hn,hs=>by
   obtain⟨h1,h2⟩:=List.nodup_cons.mp hn
   have hx:x∈F:=hs x List.mem_cons_self
   have ih:=yX L (F.erase x) h2 (fun y hy=>(List.mem_erase_of_ne (fun(e:y=x)=>h1 (by rw[←e];exact hy))).mpr (hs y (List.mem_cons_of_mem _ hy)))
   rw[List.length_erase_of_mem hx] at ih
   have:0 < F.length:=List.length_pos_of_mem hx
   rw[List.length_cons]
   omega
theorem hW{α:Type}{xs:List α}{i:Int}(h0:0≤i)(h:i.toNat < xs.length):l8 xs i=some xs[i.toNat]:=by
 unfold l8 m8
 rw[if_pos h0,if_pos (by omega)]
 simp [h]
theorem strs_map:∀ss:List Str,strs? (ss.map D.str)=some ss
 | []=>rfl
 | s ::ss=>by show(strs? (ss.map D.str)).map (s ::·)=_;rw [strs_map ss];rfl
theorem ints_map:∀ss:List Int,ints? (ss.map D.int)=some ss
 | []=>rfl
 | s ::ss=>by show(ints? (ss.map D.int)).map (s ::·)=_;rw [ints_map ss];rfl
theorem AV{a b:Str}(h:a.cps.toList=b.cps.toList):a=b:=by
 obtain⟨a⟩:=a;obtain⟨b⟩:=b
 congr 1
 exact Array.toList_inj.mp h
theorem mU(a b:Str):(a++b).cps.toList=a.cps.toList++b.cps.toList:=by
 show(a.cps++b.cps).toList=_
 simp
theorem bS{F G:FS}{δ δ1:aw}{r:R Out}(h:F δ= .ok (.nx δ1))(h2:G δ1=r):eN F G δ=r:=by unfold eN;rw [h,R.aS];exact h2
theorem gH{f:aw→R (List D)}{δ:aw}{ds:List D}(h:f δ= .ok ds):eNew f δ= .ok (.lst ds):=by unfold eNew;rw [h];rfl
theorem mj{c:aw→R Bool}{F G:FS}{δ:aw}{r:R Out}(h:c δ= .ok true)(h2:F δ=r):nU c F G δ=r:=by unfold nU;rw [h,R.aS,if_pos rfl];exact h2
theorem fZ{c:aw→R Bool}{F G:FS}{δ:aw}{r:R Out}(h:c δ= .ok false)(h2:G δ=r):nU c F G δ=r:=by unfold nU;rw [h,R.aS,if_neg (by decide)];exact h2
theorem uO{it:aw→R (List D)}{t:FT}{F:FS}{δ:aw}{ds:List D}{r:R Out}(h:it δ= .ok ds)(h2:l3 t F ds δ=r):v_ it t F δ=r:=by unfold v_;rw [h,R.aS];exact h2
theorem cB{f:FD}{δ:aw}{d:D}(h:f δ= .ok d):el f δ= .ok (.rt d):=by unfold el;rw [h];rfl
theorem c9{N:List Str}{F:FS}{ds:List D}{d:D}(h:F (cz N ds)= .ok (.rt d)):mH N F ds= .ok d:=by unfold mH;rw [h];rfl
theorem bB{α:Type}{p:Prop} [Decidable p](r:R α)(h:p):R.bF (decide p) r=r:=by rw[decide_eq_true h];rfl
theorem iV{i:Nat}{f:FD}{δ:aw}{d:D}(h:f δ= .ok d)(hi:i < δ.length):iI i f δ= .ok (.nx (δ.set i (.val d))):=by unfold iI;rw [h,R.aS,bB _ hi]
theorem iG{it:aw→R (List D)}{t:FT}{c:aw→R Bool}{f:FD}{own:List Str}{kp:List Nat}{δ:aw}{ds ys:List D}(h1:it δ= .ok ds)(h2:ds.length≤sizeLine)(h3:nH t c f (oT own kp δ) ds= .ok ys):jE it t c f own kp δ= .ok ys:=by unfold jE;rw [h1,R.aS,bB _ h2,h3]
theorem iZ{ds:List D}{i:Int}{d:D}(h:l8 ds i=some d):cw (.lst ds) (.int i)= .ok d:=by unfold cw;simp only[h]
theorem qI{ds:List D}{i:Int}{d:D}(h:l8 ds i=some d):cw (.tup ds) (.int i)= .ok d:=by unfold cw;simp only[h]
theorem zN{x:Str}{i:Int}{c:Nat}(hz:x.length≤sizeLine)(h:l8 x.cps.toList i=some c):cw (.str x) (.int i)= .ok (.str ⟨#[c]⟩):=by unfold cw;simp only[h,bB _ hz]
end L2
end
section
set_option maxRecDepth 100000
namespace L2
open PySem PySem.Spec PyProof.Rows
theorem aG{g:D→D→R D}{fa fb:FD}{δ:aw}{a b:D}{r:R D}(ha:fa δ= .ok a)(hb:fb δ= .ok b)(h:g a b=r):e2 g fa fb δ=r:=by unfold e2;rw [ha,R.aS,hb,R.aS];exact h
theorem iB{g:D→D→R D}{fa fb:FD}{δ:aw}{a b:D}{k:Bool}(ha:fa δ= .ok a)(hb:fb δ= .ok b)(h:g a b= .ok (.bl k)):b2 g fa fb δ= .ok k:=by unfold b2;rw [aG ha hb h];rfl
theorem aR{f:FD}{g:aw→R (List D)}{δ:aw}{d:D}{ds:List D}(h:f δ= .ok d)(h2:g δ= .ok ds):au f g δ= .ok (d ::ds):=by unfold au;rw [h,R.aS,h2];rfl
theorem aO{g:List D→R D}{fs:aw→R (List D)}{δ:aw}{ds:List D}{r:R D}(h:fs δ= .ok ds)(h2:g ds=r):aK g fs δ=r:=by unfold aK;rw [h,R.aS];exact h2
theorem iY{g:aw→R (List D)}{δ:aw}{ds:List D}(h:g δ= .ok ds)(hl:ds.length≤sizeLine):dv g δ= .ok (.tup ds):=by unfold dv;rw [h,R.aS,bB _ hl]
theorem qf{g:aw→R (List D)}{δ:aw}{ds:List D}(h:g δ= .ok ds)(hl:ds.length≤sizeLine):dE g δ= .ok ds:=by unfold dE;rw [h,R.aS,bB _ hl]
theorem Bj{g:D→List D→R D}{f:FD}{fs:aw→R (List D)}{δ:aw}{x:Str}{ds:List D}{r:R D}(h:f δ= .ok (.str x))(h2:fs δ= .ok ds)(h3:g (.str x) ds=r):vY "str" g f fs δ=r:=by
 unfold vY;rw [h,R.aS,h2,R.aS];exact h3
theorem yp{f:FD}{fl fh:FO}{δ:aw}{d:D}{lo hi:Option Int}{r:R D}(h:f δ= .ok d)(h1:fl δ= .ok lo)(h2:fh δ= .ok hi)(h3:Ef d lo hi=r):vO f fl fh δ=r:=by unfold vO;rw [h,R.aS,h1,R.aS,h2,R.aS];exact h3
theorem C3{x:Str}{lo hi:Option Int}(h:x.length≤sizeLine):Ef (.str x) lo hi= .ok (.str (Txt.slice x lo hi)):=by unfold Ef;exact bB _ h
theorem uP{a b:Str}(h:a.length+b.length≤sizeLine):dH (.str a) (.str b)= .ok (.str (a++b)):=by unfold dH;exact bB _ h
theorem vQ{a b:List D}(h:a.length+b.length≤sizeLine):dH (.lst a) (.lst b)= .ok (.lst (a++b)):=by unfold dH;exact bB _ h
theorem ql{a b:Int}(h:0 < b):gG (.int a) (.int b)= .ok (.int (a % b)):=by unfold gG qi;exact bB _ h
theorem f_{f:FD}{δ:aw}{n:Nat}(h:f δ= .ok (.int n))(hn:n < 1000000):eg f δ= .ok (bZ 0 n):=by
 unfold eg;rw [h,R.aS];show R.bF (decide (-(2 ^ 62)≤(n:Int)∧(n:Int) < 2 ^ 62)) _=_
 rw[bB _ ⟨by omega,by omega⟩,Int.toNat_natCast]
theorem tG{f:FD}{δ:aw}{ds:List D}(h:f δ= .ok (.lst ds)):gB f δ= .ok ds:=by unfold gB;rw [h];rfl
theorem CQ{f:FD}{δ:aw}{ds:List D}(h:f δ= .ok (.tup ds)):gB f δ= .ok ds:=by unfold gB;rw [h];rfl
theorem kr(ds:List D):cK [.lst ds]= .ok (.int ds.length):=rfl
end L2
end
section
set_option maxRecDepth 100000
set_option maxHeartbeats 4000000
namespace L3
open PySem PySem.Spec PyProof.Rows L2
inductive V3 where
 | d (x:D) | loc (k:Nat) | lst (vs:List V3) | tup (vs:List V3)
inductive SO where
 | lst (ds:List D) | dct (kvs:List (Key × D)) | ins (c:Nat) (fs:List (Str × V3)) | g6
noncomputable abbrev aJ:=List SO
inductive R3 (α:Type) where
 | ok (a:α) (S:aJ) | ex (c:Nat) (S:aJ) | no
noncomputable def R3.bind{α β:Type}:R3 α→(α→aJ→R3 β)→R3 β
 | .ok a S,f=>f a S
 | .ex c S,_=> .ex c S
 | .no,_=> .no
theorem R3.ak{α β:Type}{r:R3 α}{f:α→aJ→R3 β}{b:β}{S':aJ}(h:r.bind f= .ok b S'):∃a S,r= .ok a S∧f a S= .ok b S':=by
 cases r with
 | ok a S=>exact⟨a,S,rfl,h⟩
 | ex c S=>cases h
 | no=>cases h
@[simp] theorem R3.aS{α β:Type}(a:α)(S:aJ)(f:α→aJ→R3 β):(R3.ok a S).bind f=f a S:=rfl
noncomputable def R3.bF{α:Type}(c:Bool)(r:R3 α):R3 α:=if c then r else .no
theorem R3.ba{α:Type}{c:Bool}{r:R3 α}{a:α}{S:aJ}(h:R3.bF c r= .ok a S):c=true∧r= .ok a S:=by
 cases c with
 | true=>exact⟨rfl,h⟩
 | false=>cases h
noncomputable def R3.of{α:Type}(r:R α)(S:aJ):R3 α:=match r with | .ok a=> .ok a S | _=> .no
theorem R3.of_ok{α:Type}{r:R α}{S S':aJ}{a:α}(h:R3.of r S= .ok a S'):r= .ok a∧S'=S:=by
 cases r with
 | ok b=>cases h;exact⟨rfl,rfl⟩
 | ex c=>cases h
 | no=>cases h
structure P3 where
 r:List Addr
 z:List Addr
 f:List Addr
noncomputable def P3.b(ρ:P3):List Addr:=ρ.r.filter (fun a=>!ρ.f.contains a)++ρ.z
theorem P3.dh{ρ:P3}{a:Addr}:a∈ρ.b↔(a∈ρ.r∧a ∉ ρ.f)∨a∈ρ.z:=by
 unfold P3.b
 rw[List.mem_append,List.mem_filter]
 simp
noncomputable def P3.push(ρ:P3)(a:Addr):P3:=⟨ρ.r++[a],ρ.z,ρ.f⟩
noncomputable def P3.cut(ρ:P3)(n:Nat):P3:=⟨ρ.r.take n,ρ.z,ρ.f⟩
mutual
noncomputable def aW(K:PySem.W.Frag)(ρ:P3)(H:Hp):V3→V→Prop
 | .d x,v=>Rep K ρ.b H x v
 | .loc k,v=>∃a,ρ.r[k]? =some a∧v= .ref a
 | .lst vs,v=>∃a xs,v= .ref a∧m5 K ρ.b H a xs∧aA K ρ H vs xs
 | .tup vs,v=>∃a xs,v= .ref a∧qB K ρ.b H a xs∧aA K ρ H vs xs
noncomputable def aA(K:PySem.W.Frag)(ρ:P3)(H:Hp):List V3→List V→Prop
 | [],xs=>xs=[]
 | d ::ds,xs=>∃x r,xs=x ::r∧aW K ρ H d x∧aA K ρ H ds r
end
structure Pre (ρ:P3) (H:Hp) (ρ':P3) (H':Hp):Prop where
 bg:d6 ρ.b H ρ'.b H'
 zz:ρ'.z=ρ.z
 zs:∀(b:Addr) (o:HO),b∈ρ.z→H b=some o→H' b=some o
 ext:∀(k:Nat) (a:Addr),ρ.r[k]? =some a→ρ'.r[k]? =some a
theorem Pre.refl(ρ:P3)(H:Hp):Pre ρ H ρ H:=⟨d6.refl ρ.b H,rfl,fun _ _ _ h=>h,fun _ _ h=>h⟩
theorem Pre.trans{ρ ρ' ρ'':P3}{H H' H'':Hp}(a:Pre ρ H ρ' H')(b:Pre ρ' H' ρ'' H''):Pre ρ H ρ'' H'':=⟨a.bg.trans b.bg,b.zz.trans a.zz,fun c o hc h=>b.zs c o (by rw[a.zz];exact hc) (a.zs c o hc h),fun k x h=>b.ext k x (a.ext k x h)⟩
theorem Pre.same{ρ:P3}{H H':Hp}(s:aN H H'):Pre ρ H ρ H':=⟨d6.same s,rfl,fun b o _ h=>s b o h,fun _ _ h=>h⟩
theorem qB.bg{K:PySem.W.Frag}{B B':List Addr}{H H':Hp}(p:d6 B H B' H'){a:Addr}{xs:List V}(l:qB K B H a xs):qB K B' H' a xs:=
 l.elim (fun z=> .inl ⟨(p.rd z.2 z.1).2,(p.rd z.2 z.1).1⟩) .inr
mutual
theorem aW.pre{K:PySem.W.Frag}{ρ ρ':P3}{H H':Hp}(p:Pre ρ H ρ' H'):∀{d:V3} {v:V},aW K ρ H d v→aW K ρ' H' d v
 | .d x,v,h=>by unfold aW at h ⊢;exact h.bg p.bg
 | .loc k,v,h=>by unfold aW at h ⊢;obtain⟨a,h1,h2⟩:=h;exact⟨a,p.ext k a h1,h2⟩
 | .lst vs,v,h=>by unfold aW at h ⊢;obtain⟨a,xs,e,l,r⟩:=h;exact⟨a,xs,e,l.bg p.bg,aA.pre p r⟩
 | .tup vs,v,h=>by unfold aW at h ⊢;obtain⟨a,xs,e,l,r⟩:=h;exact⟨a,xs,e,qB.bg p.bg l,aA.pre p r⟩
theorem aA.pre{K:PySem.W.Frag}{ρ ρ':P3}{H H':Hp}(p:Pre ρ H ρ' H'):∀{ds:List V3} {xs:List V},aA K ρ H ds xs→aA K ρ' H' ds xs
 | [],_,h=>by unfold aA at h ⊢;exact h
 | d ::ds,xs,h=>by
   unfold aA at h ⊢
   obtain⟨x,r,e,h1,h2⟩:=h
   exact⟨x,r,e,aW.pre p h1,aA.pre p h2⟩
end
structure PW (ρ:P3) (H:Hp) (ρ':P3) (H':Hp):Prop where
 bg:d6 ρ.b H ρ'.b H'
 ext:∀(k:Nat) (a:Addr),ρ.r[k]? =some a→ρ'.r[k]? =some a
theorem Pre.pw{ρ ρ':P3}{H H':Hp}(p:Pre ρ H ρ' H'):PW ρ H ρ' H':=⟨p.bg,p.ext⟩
theorem PW.trans{ρ ρ' ρ'':P3}{H H' H'':Hp}(a:PW ρ H ρ' H')(b:PW ρ' H' ρ'' H''):PW ρ H ρ'' H'':=⟨a.bg.trans b.bg,fun k x h=>b.ext k x (a.ext k x h)⟩
mutual
theorem aW.pw{K:PySem.W.Frag}{ρ ρ':P3}{H H':Hp}(p:PW ρ H ρ' H'):∀{d:V3} {v:V},aW K ρ H d v→aW K ρ' H' d v
 | .d x,v,h=>by unfold aW at h ⊢;exact h.bg p.bg
 | .loc k,v,h=>by unfold aW at h ⊢;obtain⟨a,h1,h2⟩:=h;exact⟨a,p.ext k a h1,h2⟩
 | .lst vs,v,h=>by unfold aW at h ⊢;obtain⟨a,xs,e,l,r⟩:=h;exact⟨a,xs,e,l.bg p.bg,aA.pw p r⟩
 | .tup vs,v,h=>by unfold aW at h ⊢;obtain⟨a,xs,e,l,r⟩:=h;exact⟨a,xs,e,qB.bg p.bg l,aA.pw p r⟩
theorem aA.pw{K:PySem.W.Frag}{ρ ρ':P3}{H H':Hp}(p:PW ρ H ρ' H'):∀{ds:List V3} {xs:List V},aA K ρ H ds xs→aA K ρ' H' ds xs
 | [],_,h=>by unfold aA at h ⊢;exact h
 | d ::ds,xs,h=>by
   unfold aA at h ⊢
   obtain⟨x,r,e,h1,h2⟩:=h
   exact⟨x,r,e,aW.pw p h1,aA.pw p h2⟩
end
theorem aA.nil{K:PySem.W.Frag}{ρ:P3}{H:Hp}:aA K ρ H [] []:=by unfold aA;rfl
theorem aA.cons{K:PySem.W.Frag}{ρ:P3}{H:Hp}{d:V3}{ds:List V3}{x:V}{xs:List V}(h:aW K ρ H d x)(t:aA K ρ H ds xs):aA K ρ H (d ::ds) (x ::xs):=by
 unfold aA;exact⟨x,xs,rfl,h,t⟩
theorem aA.bU{K:PySem.W.Frag}{ρ:P3}{H:Hp}{d:V3}{ds:List V3}{xs:List V}(h:aA K ρ H (d ::ds) xs):∃x r,xs=x ::r∧aW K ρ H d x∧aA K ρ H ds r:=by
 unfold aA at h;exact h
theorem aA.length{K:PySem.W.Frag}{ρ:P3}{H:Hp}:∀{ds:List V3} {xs:List V},aA K ρ H ds xs→ds.length=xs.length
 | [],_,h=>by unfold aA at h;rw [h];rfl
 | d ::ds,xs,h=>by
   obtain⟨x,r,rfl,_,h2⟩:=h.bU
   simp [h2.length]
theorem aA.of{K:PySem.W.Frag}{ρ:P3}{H:Hp}:∀{ds:List D} {xs:List V},aC K ρ.b H ds xs→aA K ρ H (ds.map .d) xs
 | [],_,h=>by unfold aC at h;subst h;exact aA.nil
 | d ::ds,xs,h=>by
   obtain⟨x,r,rfl,h1,h2⟩:=h.bU
   exact aA.cons (by unfold aW;exact h1) (aA.of h2)
theorem aA.to{K:PySem.W.Frag}{ρ:P3}{H:Hp}:∀{ds:List D} {xs:List V},aA K ρ H (ds.map .d) xs→aC K ρ.b H ds xs
 | [],_,h=>by unfold aA at h;subst h;exact aC.nil
 | d ::ds,xs,h=>by
   obtain⟨x,r,rfl,h1,h2⟩:=aA.bU h
   unfold aW at h1
   exact aC.cons h1 (aA.to h2)
noncomputable def zI(K:PySem.W.Frag)(cl:Nat→Addr)(ρ:P3)(H:Hp):SO→Option HO→Prop
 | .lst ds,h=>∃xs,h=some (.lst xs)∧aC K ρ.b H ds xs
 | .dct kvs,h=>∃ys,h=some (.dK ys)∧ys.map (·.1)=kvs.map (·.1)∧aC K ρ.b H (kvs.map (·.2)) (ys.map (·.2))
 | .ins c fs,h=>∃dx ys,h=some (.ins (cl c) dx ys)∧ys.map (·.1)=fs.map (·.1)∧aA K ρ H (fs.map (·.2)) (ys.map (·.2))
 | .g6,h=>∃u,h=some u
theorem zI.pre{K:PySem.W.Frag}{cl:Nat→Addr}{ρ ρ':P3}{H H':Hp}(p:Pre ρ H ρ' H'){o:SO}{h:Option HO}(r:zI K cl ρ H o h):zI K cl ρ' H' o h:=by
 cases o with
 | lst ds=>obtain⟨xs,e,q⟩:=r;exact⟨xs,e,q.bg p.bg⟩
 | dct kvs=>obtain⟨ys,e,e2,q⟩:=r;exact⟨ys,e,e2,q.bg p.bg⟩
 | ins c fs=>obtain⟨dx,ys,e,e2,q⟩:=r;exact⟨dx,ys,e,e2,q.pre p⟩
 | g6=>exact r
theorem zI.pw{K:PySem.W.Frag}{cl:Nat→Addr}{ρ ρ':P3}{H H':Hp}(p:PW ρ H ρ' H'){o:SO}{h:Option HO}(r:zI K cl ρ H o h):zI K cl ρ' H' o h:=by
 cases o with
 | lst ds=>obtain⟨xs,e,q⟩:=r;exact⟨xs,e,q.bg p.bg⟩
 | dct kvs=>obtain⟨ys,e,e2,q⟩:=r;exact⟨ys,e,e2,q.bg p.bg⟩
 | ins c fs=>obtain⟨dx,ys,e,e2,q⟩:=r;exact⟨dx,ys,e,e2,q.pw p⟩
 | g6=>exact r
theorem zI.some{K:PySem.W.Frag}{cl:Nat→Addr}{ρ:P3}{H:Hp}{o:SO}{h:Option HO}(r:zI K cl ρ H o h):∃u,h=some u:=by
 cases o with
 | lst ds=>obtain⟨xs,e,q⟩:=r;exact⟨_,e⟩
 | dct kvs=>obtain⟨ys,e,e2,q⟩:=r;exact⟨_,e⟩
 | ins c fs=>obtain⟨dx,ys,e,e2,q⟩:=r;exact⟨_,e⟩
 | g6=>exact r
structure SW (K:PySem.W.Frag) (cl:Nat→Addr) (ρ:P3) (H:Hp) (S:aJ):Prop where
 len:ρ.r.length=S.length
 nd:∀(i j:Nat) (a:Addr),ρ.r[i]? =some a→ρ.r[j]? =some a→i=j
 ob:∀(k:Nat) (a:Addr) (o:SO),ρ.r[k]? =some a→S[k]? =some o→zI K cl ρ H o (H a)
 zb:∀b∈ρ.z,(∃xs,H b=some (.lst xs))∧b ∉ ρ.r
 fz:∀(k:Nat) (a:Addr),ρ.r[k]? =some a→S[k]?≠some .g6→a ∉ ρ.f
 ff:∀a∈ρ.f,∃o,H a=some o
 fi:∀(k:Nat) (a:Addr),ρ.r[k]? =some a→S[k]? =some .g6→a∈ρ.f
theorem SW.rs{K:PySem.W.Frag}{cl:Nat→Addr}{ρ:P3}{H:Hp}{S:aJ}(w:SW K cl ρ H S):∀a∈ρ.r,∃o,H a=some o:=fun a z=>by
 obtain⟨k,hk⟩:=List.getElem?_of_mem z
 have hl:=(List.getElem?_eq_some_iff.mp hk).1
 exact(w.ob k a _ hk (List.getElem?_eq_getElem (by rw[←w.len];exact hl))).some
theorem SW.bs{K:PySem.W.Frag}{cl:Nat→Addr}{ρ:P3}{H:Hp}{S:aJ}(w:SW K cl ρ H S):∀a∈ρ.b,∃o,H a=some o:=fun a ha=>by
 rcases P3.dh.mp ha with z | z
 ·exact w.rs a z.1
 ·obtain⟨xs,h⟩:=(w.zb a z).1
  exact⟨_,h⟩
theorem SW.same{K:PySem.W.Frag}{cl:Nat→Addr}{ρ:P3}{H H':Hp}{S:aJ}(w:SW K cl ρ H S)(s:aN H H'):SW K cl ρ H' S:=
 ⟨w.len,w.nd,fun k a o h1 h2=>by
   have r:=w.ob k a o h1 h2
   obtain⟨u,hu⟩:=r.some
   rw[s a u hu,←hu]
   exact r.pre (Pre.same s),fun b hb=>let⟨⟨o,ho⟩,n⟩:=w.zb b hb;⟨⟨o,s b _ ho⟩,n⟩,w.fz,fun a ha=>let⟨o,ho⟩:=w.ff a ha;⟨o,s a o ho⟩,w.fi⟩
theorem P3.mem_push{ρ:P3}{a b:Addr}(h:b∈(ρ.push a).b):b∈ρ.b∨b=a:=by
 rcases P3.dh.mp h with⟨z,n⟩ | z
 ·rcases List.mem_append.mp z with y | y
  ·exact .inl (P3.dh.mpr (.inl ⟨y,n⟩))
  ·exact .inr (List.mem_singleton.mp y)
 ·exact .inl (P3.dh.mpr (.inr z))
theorem SW.new{K:PySem.W.Frag}{cl:Nat→Addr}{ρ:P3}{H H':Hp}{S:aJ}(w:SW K cl ρ H S){a:Addr}{o:SO}(s:aN H H')(n:H a=none)(r:zI K cl (ρ.push a) H' o (H' a))(hne:o≠SO.g6:=by intro h;cases h) :
 SW K cl (ρ.push a) H' (S++[o])∧Pre ρ H (ρ.push a) H':=by
 have na:a ∉ ρ.b:=fun ha=>by obtain⟨o,ho⟩:=w.bs a ha;rw [n] at ho;cases ho
 have nr:a ∉ ρ.r:=fun ha=>by obtain⟨o,ho⟩:=w.rs a ha;rw [n] at ho;cases ho
 have nf:a ∉ ρ.f:=fun ha=>by obtain⟨o,ho⟩:=w.ff a ha;rw [n] at ho;cases ho
 have p:Pre ρ H (ρ.push a) H':=⟨fun b u e nb=>⟨s b u e,fun hb=>by
  rcases P3.mem_push hb with z | z
  ·exact nb z
  ·subst z;rw [n] at e;cases e⟩,rfl,fun b o _ h=>s b o h,fun k x hx=>by
   show(ρ.r++[a])[k]? =_
   rw[List.getElem?_append_left (List.getElem?_eq_some_iff.mp hx).1];exact hx⟩
 have last:∀(i:Nat) (b:Addr),(ρ.push a).r[i]? =some b→(i < ρ.r.length∧ρ.r[i]? =some b)∨(i=ρ.r.length∧b=a):=fun i b h=>by
  have h:(ρ.r++[a])[i]? =some b:=h
  by_cases q:i < ρ.r.length
  ·rw[List.getElem?_append_left q] at h;exact .inl ⟨q,h⟩
  ·rw[List.getElem?_append_right (by omega)] at h
   have h0:i - ρ.r.length=0:=by
    have:=(List.getElem?_eq_some_iff.mp h).1
    simp at this;omega
   rw[h0] at h
   cases h
   exact .inr ⟨by omega,rfl⟩
 refine⟨⟨by show(ρ.r++[a]).length=_;rw [List.length_append,List.length_append,w.len];rfl,fun i j b hi hj=>?_,fun k b u hk hu=>?_,fun b hb=>?_,fun k b hk hu=>?_,fun b hb=>?_,fun k b hk hu=>?_⟩,p⟩
 ·rcases last i b hi with⟨q1,q2⟩ | ⟨q1,rfl⟩
  ·rcases last j b hj with⟨z1,z2⟩ | ⟨z1,rfl⟩
   ·exact w.nd i j b q2 z2
   ·exact absurd (List.mem_of_getElem? q2) nr
  ·rcases last j b hj with⟨z1,z2⟩ | ⟨z1,z3⟩
   ·exact absurd (List.mem_of_getElem? z2) nr
   ·omega
 ·rcases last k b hk with⟨q1,q2⟩ | ⟨q1,rfl⟩
  ·rw[List.getElem?_append_left (by rw[←w.len];exact q1)] at hu
   have r0:=w.ob k b u q2 hu
   obtain⟨x,hx⟩:=r0.some
   rw[s b x hx,←hx]
   exact r0.pre p
  ·rw[List.getElem?_append_right (by rw[←w.len];omega),q1,w.len,Nat.sub_self] at hu
   cases hu
   exact r
 ·obtain⟨⟨o,ho⟩,nb⟩:=w.zb b hb
  refine⟨⟨o,s b _ ho⟩,fun h=>?_⟩
  rcases List.mem_append.mp h with y | y
  ·exact nb y
  ·rw[List.mem_singleton] at y;subst y;rw [n] at ho;cases ho
 ·rcases last k b hk with⟨q1,q2⟩ | ⟨q1,rfl⟩
  ·rw[List.getElem?_append_left (by rw[←w.len];exact q1)] at hu
   exact w.fz k b q2 hu
  ·exact nf
 ·obtain⟨o,ho⟩:=w.ff b hb
  exact⟨o,s b o ho⟩
 ·rcases last k b hk with⟨q1,q2⟩ | ⟨q1,rfl⟩
  ·rw[List.getElem?_append_left (by rw[←w.len];exact q1)] at hu
   exact w.fi k b q2 hu
  ·rw[List.getElem?_append_right (by rw[←w.len];omega),q1,w.len,Nat.sub_self] at hu
   cases hu
   exact absurd rfl hne
theorem SW.put{K:PySem.W.Frag}{cl:Nat→Addr}{ρ:P3}{H:Hp}{S:aJ}(w:SW K cl ρ H S){k:Nat}{a:Addr}{o:SO}{u:HO}(hk:ρ.r[k]? =some a)(hf:a ∉ ρ.f)(r:zI K cl ρ H o (some u))(hne:o≠SO.g6:=by intro h;cases h) :
 SW K cl ρ (upd H a u) (S.set k o)∧Pre ρ H ρ (upd H a u):=by
 have ha:a∈ρ.r:=List.mem_of_getElem? hk
 have hb:a∈ρ.b:=P3.dh.mpr (.inl ⟨ha,hf⟩)
 have nz:∀b∈ρ.z,b≠a:=fun b hb z=>(w.zb b hb).2 (by rw[z];exact ha)
 have p:Pre ρ H ρ (upd H a u):=⟨fun b x e nb=>⟨by rw[bf (fun(z:b=a)=>nb (by rw[z];exact hb))];exact e,nb⟩,rfl,fun b o hb h=>by rw[bf (nz b hb)];exact h,fun _ _ h=>h⟩
 have hl:k < S.length:=by rw[←w.len];exact(List.getElem?_eq_some_iff.mp hk).1
 refine⟨⟨by rw[List.length_set];exact w.len,w.nd,fun j b x hj hx=>?_,fun b hb=>?_,fun j b hj hx=>?_,fun b hb=>?_,fun j b hj hx=>?_⟩,p⟩
 ·by_cases q:k=j
  ·subst q
   rw[hk] at hj;cases hj
   rw[List.getElem?_set_self hl] at hx;cases hx
   rw[bc]
   exact r.pre p
  ·rw[List.getElem?_set_ne q] at hx
   have ne:b≠a:=fun z=>by subst z;exact q (w.nd k j b hk hj)
   rw[bf ne]
   exact(w.ob j b x hj hx).pre p
 ·obtain⟨⟨o,ho⟩,nb⟩:=w.zb b hb
  exact⟨⟨o,by rw[bf (nz b hb)];exact ho⟩,nb⟩
 ·by_cases q:k=j
  ·subst q
   rw[hk] at hj;cases hj
   exact hf
  ·rw[List.getElem?_set_ne q] at hx
   exact w.fz j b hj hx
 ·obtain⟨o,ho⟩:=w.ff b hb
  exact⟨o,by rw[bf (fun z=>hf (by rw[←z];exact hb))];exact ho⟩
 ·by_cases q:k=j
  ·subst q
   rw[List.getElem?_set_self hl] at hx;cases hx
   exact absurd rfl hne
  ·rw[List.getElem?_set_ne q] at hx
   exact w.fi j b hj hx
theorem SW.g6{K:PySem.W.Frag}{cl:Nat→Addr}{ρ:P3}{H:Hp}{S:aJ}(w:SW K cl ρ H S){k:Nat}{a:Addr}{ds:List D}(hk:ρ.r[k]? =some a)(hS:S[k]? =some (.lst ds)) :
 SW K cl ⟨ρ.r,ρ.z,a ::ρ.f⟩ H (S.set k .g6)∧Pre ρ H ⟨ρ.r,ρ.z,a ::ρ.f⟩ H∧Rep K (⟨ρ.r,ρ.z,a ::ρ.f⟩:P3).b H (.lst ds) (.ref a):=by
 have hl:k < S.length:=by rw[←w.len];exact(List.getElem?_eq_some_iff.mp hk).1
 have sub:∀b,b∈(⟨ρ.r,ρ.z,a ::ρ.f⟩:P3).b→b∈ρ.b:=fun b hb=>by
  rcases P3.dh.mp hb with⟨z,n⟩ | z
  ·exact P3.dh.mpr (.inl ⟨z,fun h=>n (List.mem_cons_of_mem _ h)⟩)
  ·exact P3.dh.mpr (.inr z)
 have p:Pre ρ H ⟨ρ.r,ρ.z,a ::ρ.f⟩ H:=⟨fun b o e nb=>⟨e,fun hb=>nb (sub b hb)⟩,rfl,fun _ _ _ h=>h,fun _ _ h=>h⟩
 obtain⟨xs,e1,r1⟩:=w.ob k a _ hk hS
 refine⟨⟨by rw[List.length_set];exact w.len,w.nd,fun j b x hj hx=>?_,w.zb,fun j b hj hx=>?_,fun b hb=>?_,fun j b hj hx=>?_⟩,p,?_⟩
 ·by_cases q:k=j
  ·subst q
   rw[List.getElem?_set_self hl] at hx;cases hx
   rw[hk] at hj;cases hj
   exact⟨_,e1⟩
  ·rw[List.getElem?_set_ne q] at hx
   exact(w.ob j b x hj hx).pre p
 ·by_cases q:k=j
  ·subst q
   rw[List.getElem?_set_self hl] at hx
   exact absurd rfl hx
  ·rw[List.getElem?_set_ne q] at hx
   intro h
   rcases List.mem_cons.mp h with z | z
   ·subst z;exact q (w.nd k j b hk hj)
   ·exact w.fz j b hj hx z
 ·rcases List.mem_cons.mp hb with z | z
  ·subst z;exact⟨_,e1⟩
  ·exact w.ff b z
 ·by_cases q:k=j
  ·subst q
   rw[hk] at hj;cases hj
   exact List.mem_cons_self
  ·rw[List.getElem?_set_ne q] at hx
   exact List.mem_cons_of_mem _ (w.fi j b hj hx)
 ·refine Rep.lst.mpr ⟨a,xs,rfl, .inl ⟨fun hb=>?_, .inl e1⟩,r1.bg p.bg⟩
  rcases P3.dh.mp hb with⟨_,n⟩ | z
  ·exact n List.mem_cons_self
  ·exact(w.zb a z).2 (List.mem_of_getElem? hk)
mutual
noncomputable def jm:D→Bool
 | .lst _=>false
 | .dct _ _=>false
 | .tup ds=>gZ ds
 | _=>true
noncomputable def gZ:List D→Bool
 | []=>true
 | d ::ds=>jm d && gZ ds
end
mutual
theorem Rep.sv{K:PySem.W.Frag}{B:List Addr}{H:Hp}(hB:∀b∈B,∀xs,¬Rd H b (.tup xs)):∀{d:D} {v:V},jm d=true→Rep K [] H d v→Rep K B H d v
 | .cD,v,_,r=>Rep.cD.mpr (Rep.cD.mp r)
 | .bl _,v,_,r=>Rep.bl.mpr (Rep.bl.mp r)
 | .int _,v,_,r=>Rep.int.mpr (Rep.int.mp r)
 | .str _,v,_,r=>Rep.str.mpr (Rep.str.mp r)
 | .lst _,v,h,_=>by unfold jm at h;cases h
 | .dct _ _,v,h,_=>by unfold jm at h;cases h
 | .tup ds,v,h,r=>by
   unfold jm at h
   obtain⟨a,xs,rfl,l,rs⟩:=Rep.tup.mp r
   exact Rep.tup.mpr ⟨a,xs,rfl,l.elim (fun z=> .inl ⟨fun hb=>hB a hb xs z.2,z.2⟩) .inr,aC.sv hB h rs⟩
theorem aC.sv{K:PySem.W.Frag}{B:List Addr}{H:Hp}(hB:∀b∈B,∀xs,¬Rd H b (.tup xs)):∀{ds:List D} {vs:List V},gZ ds=true→aC K [] H ds vs→aC K B H ds vs
 | [],_,_,r=>by unfold aC at r;subst r;exact aC.nil
 | d ::ds,vs,h,r=>by
   unfold gZ at h
   obtain⟨h1,h2⟩:=Bool.and_eq_true_iff.mp h
   obtain⟨x,xs,rfl,r1,r2⟩:=r.bU
   exact aC.cons (Rep.sv hB h1 r1) (aC.sv hB h2 r2)
end
theorem SW.nt{K:PySem.W.Frag}{cl:Nat→Addr}{ρ:P3}{H:Hp}{S:aJ}(w:SW K cl ρ H S):∀b∈ρ.b,∀xs,¬Rd H b (.tup xs):=fun b hb xs h=>by
 have key:∀o,H b=some o→(∀xs,o≠ .tup xs)→(∀ob xs,o≠ .g6 ob (.tup xs))→False:=fun o e h1 h2=>by
  rcases h with z | ⟨ob,z⟩
  ·rw[e] at z;cases z;exact h1 _ rfl
  ·rw[e] at z;cases z;exact h2 _ _ rfl
 rcases P3.dh.mp hb with⟨z,n⟩ | z
 ·obtain⟨k,hk⟩:=List.getElem?_of_mem z
  have hl:=(List.getElem?_eq_some_iff.mp hk).1
  have hS:S[k]? =some (S[k]'(by rw[←w.len];exact hl)):=List.getElem?_eq_getElem (by rw[←w.len];exact hl)
  have r:=w.ob k b _ hk hS
  generalize S[k]'(by rw[←w.len];exact hl)=o at r hS
  cases o with
  | lst ds=>obtain⟨ys,e,_⟩:=r;exact key _ e (fun _ q=>by cases q) (fun _ _ q=>by cases q)
  | dct kvs=>obtain⟨ys,e,_⟩:=r;exact key _ e (fun _ q=>by cases q) (fun _ _ q=>by cases q)
  | ins c fs=>obtain⟨dx,ys,e,_⟩:=r;exact key _ e (fun _ q=>by cases q) (fun _ _ q=>by cases q)
  | g6=>exact n (w.fi k b hk hS)
 ·obtain⟨⟨ys,e⟩,_⟩:=w.zb b z
  exact key _ e (fun _ q=>by cases q) (fun _ _ q=>by cases q)
noncomputable abbrev DE:=List (Option V3)
structure d_ (K:PySem.W.Frag) (cl:Nat→Addr) (ρ:P3) (H:Hp) (S:aJ) (σ:L2.St) (δ:DE):Prop where
 len:δ.length=σ.length
 sw:SW K cl ρ H S
 val:∀(i:Nat) (d:V3),δ[i]? =some (some d)→∃v,σ[i]? =some (some v)∧aW K ρ H d v
theorem d_.to{K:PySem.W.Frag}{cl:Nat→Addr}{ρ ρ':P3}{H H':Hp}{S S':aJ}{σ:L2.St}{δ:DE}(E:d_ K cl ρ H S σ δ)(p:Pre ρ H ρ' H')(w:SW K cl ρ' H' S'):d_ K cl ρ' H' S' σ δ:=
 ⟨E.len,w,fun i d e=>let⟨v,h1,h2⟩:=E.val i d e;⟨v,h1,h2.pre p⟩⟩
theorem d_.set{K:PySem.W.Frag}{cl:Nat→Addr}{ρ:P3}{H:Hp}{S:aJ}{σ:L2.St}{δ:DE}(E:d_ K cl ρ H S σ δ){i:Nat}{d:V3}{v:V}(hi:i < σ.length)(r:aW K ρ H d v):d_ K cl ρ H S (σ.set i (some v)) (δ.set i (some d)):=
 ⟨by rw[List.length_set,List.length_set];exact E.len,E.sw,fun j d' e=>by
   by_cases h:i=j
   ·subst h
    rw[List.getElem?_set_self (by rw[E.len];exact hi)] at e
    cases e
    exact⟨v,List.getElem?_set_self hi,r⟩
   ·rw[List.getElem?_set_ne h] at e ⊢
    exact E.val j d' e⟩
noncomputable def down(δ:DE):aw:=δ.map fun x=>match x with | some (.d d)=> .val d | _=> .un
theorem d_.down{K:PySem.W.Frag}{cl:Nat→Addr}{ρ:P3}{H:Hp}{S:aJ}{σ:L2.St}{δ:DE}(E:d_ K cl ρ H S σ δ):fw K [] ρ.b H σ (down δ) where
 len:=by unfold L3.down;rw [List.length_map];exact E.len
 bs:=E.sw.bs
 zb:=fun a ha=>by cases ha
 val:=fun i d e=>by
  unfold L3.down at e
  rw[List.getElem?_map] at e
  cases q:δ[i]? with
  | none=>rw [q] at e;cases e
  | some x=>
    rw[q] at e
    match x,e,q with
    | some (.d y),e,q=>
      cases e
      obtain⟨v,h1,h2⟩:=E.val i _ q
      unfold aW at h2
      exact⟨v,h1,h2⟩
    | some (.loc k),e,q=>cases e
    | some (.lst k),e,q=>cases e
    | some (.tup k),e,q=>cases e
    | none,e,q=>cases e
 bld:=fun i ds e=>by
  unfold L3.down at e
  rw[List.getElem?_map] at e
  cases q:δ[i]? with
  | none=>rw [q] at e;cases e
  | some x=>
    rw[q] at e
    match x,e with
    | some (.d y),e=>cases e
    | some (.loc k),e=>cases e
    | some (.lst k),e=>cases e
    | some (.tup k),e=>cases e
    | none,e=>cases e
 dis:=fun i j a ds es e=>by
  unfold L3.down at e
  rw[List.getElem?_map] at e
  cases q:δ[i]? with
  | none=>rw [q] at e;cases e
  | some x=>
    rw[q] at e
    match x,e with
    | some (.d y),e=>cases e
    | some (.loc k),e=>cases e
    | some (.lst k),e=>cases e
    | some (.tup k),e=>cases e
    | none,e=>cases e
mutual
noncomputable def res(S:aJ):V3→Option D
 | .d x=>some x
 | .loc k=>(match S[k]? with | some (.lst ds)=>some (.lst ds) | _=>none)
 | .lst vs=>(jl S vs).map D.lst
 | .tup vs=>(jl S vs).map D.tup
noncomputable def jl(S:aJ):List V3→Option (List D)
 | []=>some []
 | v ::vs=>(res S v).bind fun d=>(jl S vs).map (d ::·)
end
noncomputable def bz(S:aJ)(δ:DE):aw:=δ.map fun x=>match x with | some v=>(match res S v with | some d=> .val d | none=> .un) | none=> .un
theorem lI{α β:Type}{o:Option α}{f:α→β}{b:β}(h:o.map f=some b):∃a,o=some a∧f a=b:=by
 cases o with
 | none=>cases h
 | some a=>cases h;exact⟨a,rfl,rfl⟩
theorem t_{α β:Type}{o:Option α}{f:α→Option β}{b:β}(h:o.bind f=some b):∃a,o=some a∧f a=some b:=by
 cases o with
 | none=>cases h
 | some a=>exact⟨a,rfl,h⟩
mutual
noncomputable def d8(n:Nat):V3→Bool
 | .d _=>true
 | .loc k=>decide (n≤k)
 | .lst vs=>ix n vs
 | .tup vs=>ix n vs
noncomputable def ix(n:Nat):List V3→Bool
 | []=>true
 | v ::vs=>d8 n v && ix n vs
end
mutual
theorem aW.resB{K:PySem.W.Frag}{cl:Nat→Addr}{ρ:P3}{H:Hp}{S:aJ}{B':List Addr}{n:Nat}(w:SW K cl ρ H S)(p:d6 ρ.b H B' H)(hn:∀(k:Nat) (a:Addr),n≤k→ρ.r[k]? =some a→a ∉ B'):∀{v:V3} {d:D} {x:V},d8 n v=true→res S v=some d→aW K ρ H v x→Rep K B' H d x
 | .d y,d,x,_,h,r=>by unfold L3.res at h;cases h;unfold aW at r;exact r.bg p
 | .loc k,d,x,g,h,r=>by
   unfold L3.res at h
   unfold aW at r
   unfold d8 at g
   obtain⟨a,h1,rfl⟩:=r
   split at h
   ·rename_i ds e
    cases h
    obtain⟨xs,e2,q⟩:=w.ob k a _ h1 e
    unfold Rep
    exact⟨a,xs,rfl, .inl ⟨hn k a (of_decide_eq_true g) h1, .inl e2⟩,q.bg p⟩
   ·cases h
 | .lst vs,d,x,g,h,r=>by
   unfold L3.res at h
   unfold d8 at g
   obtain⟨ds,e,rfl⟩:=lI h
   unfold aW at r
   obtain⟨a,xs,rfl,l,r⟩:=r
   unfold Rep
   exact⟨a,xs,rfl,l.bg p,aA.resB w p hn g e r⟩
 | .tup vs,d,x,g,h,r=>by
   unfold L3.res at h
   unfold d8 at g
   obtain⟨ds,e,rfl⟩:=lI h
   unfold aW at r
   obtain⟨a,xs,rfl,l,r⟩:=r
   unfold Rep
   exact⟨a,xs,rfl,qB.bg p l,aA.resB w p hn g e r⟩
theorem aA.resB{K:PySem.W.Frag}{cl:Nat→Addr}{ρ:P3}{H:Hp}{S:aJ}{B':List Addr}{n:Nat}(w:SW K cl ρ H S)(p:d6 ρ.b H B' H)(hn:∀(k:Nat) (a:Addr),n≤k→ρ.r[k]? =some a→a ∉ B'):∀{vs:List V3} {ds:List D} {xs:List V},ix n vs=true→jl S vs=some ds→aA K ρ H vs xs→aC K B' H ds xs
 | [],ds,xs,_,h,r=>by unfold jl at h;cases h;unfold aA at r;subst r;exact aC.nil
 | v ::vs,ds,xs,g,h,r=>by
   unfold jl at h
   unfold ix at g
   obtain⟨g1,g2⟩:=Bool.and_eq_true_iff.mp g
   obtain⟨d,e1,h2⟩:=t_ h
   obtain⟨es,e2,rfl⟩:=lI h2
   obtain⟨y,ys,rfl,r1,r2⟩:=r.bU
   exact aC.cons (aW.resB w p hn g1 e1 r1) (aA.resB w p hn g2 e2 r2)
end
mutual
theorem pQ:∀v:V3,d8 0 v=true
 | .d _=>by unfold d8;rfl
 | .loc k=>by unfold d8;exact decide_eq_true (Nat.zero_le _)
 | .lst vs=>by unfold d8;exact kB vs
 | .tup vs=>by unfold d8;exact kB vs
theorem kB:∀vs:List V3,ix 0 vs=true
 | []=>by unfold ix;rfl
 | v ::vs=>by unfold ix;rw [pQ v,kB vs];rfl
end
theorem aW.res{K:PySem.W.Frag}{cl:Nat→Addr}{ρ:P3}{H:Hp}{S:aJ}(w:SW K cl ρ H S){v:V3}{d:D}{x:V}(h:res S v=some d)(r:aW K ρ H v x):Rep K [] H d x:=
 r.resB w (fun b o e _=>⟨e,by simp⟩) (n:=0) (fun _ _ _ _=>by simp) (pQ v) h
theorem lG{S:aJ}{δ:DE}{i:Nat}{y:Sl}(e:(bz S δ)[i]? =some y):(∃v d,δ[i]? =some (some v)∧res S v=some d∧y= .val d)∨y= .un:=by
 unfold bz at e
 rw[List.getElem?_map] at e
 cases q:δ[i]? with
 | none=>rw [q] at e;cases e
 | some x=>
   rw[q] at e
   cases x with
   | none=>cases e;exact .inr rfl
   | some v=>
     cases z:res S v with
     | none=>
       have e:some (match res S v with | some d=>Sl.val d | none=> .un)=some y:=e
       rw[z] at e;cases e;exact .inr rfl
     | some d=>
       have e:some (match res S v with | some d=>Sl.val d | none=> .un)=some y:=e
       rw[z] at e;cases e;exact .inl ⟨v,d,rfl,z,rfl⟩
theorem d_.bz{K:PySem.W.Frag}{cl:Nat→Addr}{ρ:P3}{H:Hp}{S:aJ}{σ:L2.St}{δ:DE}(E:d_ K cl ρ H S σ δ):fw K [] [] H σ (bz S δ) where
 len:=by unfold L3.bz;rw [List.length_map];exact E.len
 bs:=fun a ha=>by cases ha
 zb:=fun a ha=>by cases ha
 val:=fun i d e=>by
  rcases lG e with⟨v,d',h1,h2,h3⟩ | h
  ·cases h3
   obtain⟨x,q1,q2⟩:=E.val i v h1
   exact⟨x,q1,q2.res E.sw h2⟩
  ·cases h
 bld:=fun i ds e=>by
  rcases lG e with⟨v,d',h1,h2,h3⟩ | h
  ·cases h3
  ·cases h
 dis:=fun i j a ds es e=>by
  rcases lG e with⟨v,d',h1,h2,h3⟩ | h
  ·cases h3
  ·cases h
noncomputable abbrev FX:=DE→aJ→R3 V3
noncomputable abbrev FB:=DE→aJ→R3 Bool
noncomputable abbrev FA:=DE→aJ→R3 (List V3)
noncomputable def tX(K:PySem.W.Frag)(cl:Nat→Addr)(f:FX):TE:=fun σ H Q=>∃ρ S δ v S',d_ K cl ρ H S σ δ∧f δ S= .ok v S'∧∀u ρ' H',Pre ρ H ρ' H'→SW K cl ρ' H' S'→aW K ρ' H' v u→Q u H'
noncomputable def Dx(K:PySem.W.Frag)(cl:Nat→Addr)(f:FB):TT:=fun σ H Q=>∃ρ S δ b S',d_ K cl ρ H S σ δ∧f δ S= .ok b S'∧∀ρ' H',Pre ρ H ρ' H'→SW K cl ρ' H' S'→Q b H'
noncomputable def Ho(K:PySem.W.Frag)(cl:Nat→Addr)(f:FA):TA:=fun σ H Q=>∃ρ S δ vs S',d_ K cl ρ H S σ δ∧f δ S= .ok vs S'∧∀us ρ' H',Pre ρ H ρ' H'→SW K cl ρ' H' S'→aA K ρ' H' vs us→Q us H'
structure PX (X:Cx) (cl:Nat→Addr) (e:Expr) (f:FX):Prop where
 go:PE X e (tX X.K cl f)
structure yk (X:Cx) (cl:Nat→Addr) (e:Expr) (f:FB):Prop where
 go:PT X e (Dx X.K cl f)
structure zZ (X:Cx) (cl:Nat→Addr) (es:List Expr) (f:FA):Prop where
 go:PA X es (Ho X.K cl f)
section
variable {X:Cx} {cl:Nat→Addr}
noncomputable def xP(f:FD):FX:=fun δ S=>(R3.of (f (down δ)) S).bind fun d S=> .ok (.d d) S
theorem ao{e:Expr}{f:FD}(h:QD X e f):PX X cl e (xP f):=⟨h.1.imp fun σ H Q ⟨ρ,S,δ,v,S',E,hf,q⟩=>by
 obtain⟨d,S1,h1,h2⟩:=R3.ak hf
 obtain⟨h3,e3⟩:=R3.of_ok h1
 cases h2
 subst e3
 exact⟨[],ρ.b,down δ,d,E.down,h3,fun v H' s r=>q v ρ H' (Pre.same s) (E.sw.same s) (by unfold aW;exact r)⟩⟩
noncomputable def xT(f:FD):FX:=fun δ S=>(R3.of (f (bz S δ)) S).bind fun d S=>R3.bF (jm d) (.ok (.d d) S)
theorem bY{e:Expr}{f:FD}(h:QD X e f):PX X cl e (xT f):=⟨h.1.imp fun σ H Q ⟨ρ,S,δ,v,S',E,hf,q⟩=>by
 obtain⟨d,S1,h1,h2⟩:=R3.ak hf
 obtain⟨h4,e3⟩:=R3.of_ok h1
 obtain⟨ha,h3⟩:=R3.ba h2
 cases h3
 subst e3
 exact⟨[],[],bz _ δ,d,E.bz,h4,fun v H' s r=>q v ρ H' (Pre.same s) (E.sw.same s) (by unfold aW;exact Rep.sv (E.sw.same s).nt ha r)⟩⟩
noncomputable def bP(f:aw→R Bool):FB:=fun δ S=>R3.of (f (down δ)) S
theorem kW{e:Expr}{f:aw→R Bool}(h:QB X e f):yk X cl e (bP f):=⟨h.1.imp fun σ H Q ⟨ρ,S,δ,v,S',E,hf,q⟩=>by
 obtain⟨h1,e3⟩:=R3.of_ok hf
 subst e3
 exact⟨[],ρ.b,down δ,v,E.down,h1,fun H' s=>q ρ H' (Pre.same s) (E.sw.same s)⟩⟩
noncomputable def bT(f:aw→R Bool):FB:=fun δ S=>R3.of (f (bz S δ)) S
theorem jN{e:Expr}{f:aw→R Bool}(h:QB X e f):yk X cl e (bT f):=⟨h.1.imp fun σ H Q ⟨ρ,S,δ,v,S',E,hf,q⟩=>by
 obtain⟨h1,e3⟩:=R3.of_ok hf
 subst e3
 exact⟨[],[],bz _ δ,v,E.bz,h1,fun H' s=>q ρ H' (Pre.same s) (E.sw.same s)⟩⟩
noncomputable def bw(i:Nat):FX:=fun δ S=>match δ[i]? with | some (some v)=> .ok v S | _=> .no
theorem aM(i:Nat){x:Str}{pos:Pos}(hN:X.N[i]? =some x:=by rfl)(hv:D9 X.env.scope x:=by first | exact Or.inl rfl | exact Or.inr (Or.inl rfl) | exact Or.inr (Or.inr rfl))(hd:(x==("__debug__":Str))=false:=by decide)
 (hcd:(x==("__classdict__":Str))=false:=by decide):PX X cl (.Name x pos) (bw i):=⟨(tS hN hv hd hcd).imp fun σ H Q ⟨ρ,S,δ,v,S',E,hf,q⟩=>by
 unfold bw at hf
 split at hf
 ·rename_i d' e
  cases hf
  obtain⟨u,h1,h2⟩:=E.val i _ e
  exact⟨u,h1,q u ρ H (Pre.refl ρ H) E.sw h2⟩
 ·cases hf⟩
noncomputable def kP(f:aw→R (List D)):FX:=fun δ S=>(R3.of (f (down δ)) S).bind fun ds S=> .ok (.loc S.length) (S++[.lst ds])
theorem fA{e:Expr}{f:aw→R (List D)}(h:QN X e f):PX X cl e (kP f):=⟨h.1.imp fun σ H Q ⟨ρ,S,δ,v,S',E,hf,q⟩=>by
 obtain⟨ds,S1,h1,h2⟩:=R3.ak hf
 obtain⟨h3,e3⟩:=R3.of_ok h1
 cases h2
 subst e3
 refine⟨[],ρ.b,down δ,ds,E.down,h3,fun a xs H' s n e r=>?_⟩
 have r':aC X.K (ρ.push a).b H' ds xs:=r.bg fun b o e nb=>⟨e,fun hb=>nb (by
  rcases P3.mem_push hb with z | z
  ·exact List.mem_cons_of_mem _ z
  ·subst z;exact List.mem_cons_self)⟩
 obtain⟨w,p⟩:=E.sw.new (o:= .lst ds) s n ⟨xs,e,r'⟩
 exact q _ _ H' p w (by unfold aW;exact⟨a,by show(ρ.r++[a])[_]? =_;rw [←E.sw.len,List.getElem?_append_right (by omega),Nat.sub_self];rfl,rfl⟩)⟩
end
end L3
end
section
set_option maxRecDepth 100000
set_option maxHeartbeats 4000000
namespace L3
open PySem PySem.Spec PyProof.Rows L2
section
variable {X:Cx} {cl:Nat→Addr}
noncomputable def bG:FA:=fun _ S=> .ok [] S
noncomputable def ax(f:FX)(g:FA):FA:=fun δ S=>(f δ S).bind fun v S1=>(g δ S1).bind fun vs S2=> .ok (v ::vs) S2
theorem aF:zZ X cl [] bG:=⟨g9.imp fun σ H Q ⟨ρ,S,δ,v,S',E,hf,q⟩=>by
 cases hf
 exact q [] ρ H (Pre.refl ρ H) E.sw aA.nil⟩
theorem ah{e:Expr}{es:List Expr}{f:FX}{g:FA}(h:PX X cl e f)(t:zZ X cl es g)(hs:starEach (e ::es) X.env=(false,eval e X.env) ::starEach es X.env:=by rfl):zZ X cl (e ::es) (ax f g):=
 ⟨(eU h.1 t.1 hs).imp fun σ H Q ⟨ρ,S,δ,v,S',E,hf,q⟩=>by
   obtain⟨v1,S1,h1,h2⟩:=R3.ak hf
   obtain⟨vs,S2,h3,h4⟩:=R3.ak h2
   cases h4
   exact⟨ρ,S,δ,v1,S1,E,h1,fun u ρ1 H1 p1 w1 r1=>⟨ρ1,S1,δ,vs,_,E.to p1 w1,h3,fun us ρ2 H2 p2 w2 r2=>q _ ρ2 H2 (p1.trans p2) w2 (aA.cons (r1.pre p2) r2)⟩⟩⟩
noncomputable def i_:List V3→Option (List D)
 | []=>some []
 | .d x ::r=>(i_ r).map (x ::·)
 | _ ::_=>none
theorem gn:∀{vs:List V3} {ds:List D},i_ vs=some ds→vs=ds.map .d
 | [],ds,h=>by cases h;rfl
 | .d x ::r,ds,h=>by
   cases e:i_ r with
   | none=>have h:(i_ r).map (x ::·)=some ds:=h;rw [e] at h;cases h
   | some es=>
     have h:(i_ r).map (x ::·)=some ds:=h
     rw[e] at h
     cases h
     rw[gn e]
     rfl
 | .loc _ ::_,_,h=>by cases h
 | .lst _ ::_,_,h=>by cases h
 | .tup _ ::_,_,h=>by cases h
theorem nG:∀ds:List D,i_ (ds.map .d)=some ds
 | []=>rfl
 | d ::ds=>by show(i_ (ds.map .d)).map (d ::·)=_;rw [nG ds];rfl
noncomputable def jd(vs:List V3):V3:=match i_ vs with | some ds=> .d (.tup ds) | none=> .tup vs
noncomputable def f7(vs:List V3):V3:=match i_ vs with | some ds=> .d (.lst ds) | none=> .lst vs
noncomputable def xw(g:FA):FX:=fun δ S=>(g δ S).bind fun vs S=>R3.bF (decide (vs.length≤sizeLine)) (.ok (jd vs) S)
theorem mT{ρ:P3}{H:Hp}{p:Addr}{o:HO}(hp:H p=none):Pre ρ H ρ (upd H p o):=Pre.same (a0 hp)
theorem wL{K:PySem.W.Frag}{ρ:P3}{H:Hp}{vs:List V3}{xs:List V}{a:Addr}(l:qB K ρ.b H a xs)(r:aA K ρ H vs xs):aW K ρ H (jd vs) (.ref a):=by
 unfold jd
 split
 ·rename_i ds e
  rw[gn e] at r
  unfold aW Rep
  exact⟨a,xs,rfl,l,r.to⟩
 ·unfold aW
  exact⟨a,xs,rfl,l,r⟩
theorem ph{K:PySem.W.Frag}{ρ:P3}{H:Hp}{vs:List V3}{xs:List V}{a:Addr}(l:m5 K ρ.b H a xs)(r:aA K ρ H vs xs):aW K ρ H (f7 vs) (.ref a):=by
 unfold f7
 split
 ·rename_i ds e
  rw[gn e] at r
  unfold aW Rep
  exact⟨a,xs,rfl,l,r.to⟩
 ·unfold aW
  exact⟨a,xs,rfl,l,r⟩
theorem tE{es:List Expr}{g:FA}{x1 pos}(h:zZ X cl es g):PX X cl (.Tuple es x1 pos) (xw g):=⟨(yo h.1).imp fun σ H Q ⟨ρ,S,δ,v,S',E,hf,q⟩=>by
 obtain⟨vs,S1,h1,h2⟩:=R3.ak hf
 obtain⟨hl,h3⟩:=R3.ba h2
 cases h3
 refine⟨ρ,S,δ,vs,_,E,h1,fun us ρ1 H1 p1 w1 r1=>⟨by rw[←r1.length];exact of_decide_eq_true hl,fun p hp=>q _ ρ1 _ (p1.trans (mT hp)) (w1.same (a0 hp)) ?_⟩⟩
 refine wL (.inl ⟨fun ha=>?_, .inl bc⟩) (r1.pre (mT hp))
 obtain⟨o,ho⟩:=w1.bs p ha
 rw[hp] at ho;cases ho⟩
noncomputable def DK(g:FA):FX:=fun δ S=>(g δ S).bind fun vs S=>R3.bF (decide (vs.length≤sizeLine)) (.ok (f7 vs) S)
theorem Cr{es:List Expr}{g:FA}{pos}(h:zZ X cl es g):PX X cl (.List es pos) (DK g):=⟨(yA h.1).imp fun σ H Q ⟨ρ,S,δ,v,S',E,hf,q⟩=>by
 obtain⟨vs,S1,h1,h2⟩:=R3.ak hf
 obtain⟨hl,h3⟩:=R3.ba h2
 cases h3
 refine⟨ρ,S,δ,vs,_,E,h1,fun us ρ1 H1 p1 w1 r1=>⟨by rw[←r1.length];exact of_decide_eq_true hl,fun p hp=>q _ ρ1 _ (p1.trans (mT hp)) (w1.same (a0 hp)) ?_⟩⟩
 refine ph (.inl ⟨fun ha=>?_, .inl bc⟩) (r1.pre (mT hp))
 obtain⟨o,ho⟩:=w1.bs p ha
 rw[hp] at ho;cases ho⟩
noncomputable def x2(g:D→D→R D)(fa fb:FX):FX:=fun δ S=>(fa δ S).bind fun a S1=>(fb δ S1).bind fun b S2=>match a,b with
 | .d x, .d y=>(R3.of (g x y) S2).bind fun d S=> .ok (.d d) S
 | _,_=> .no
theorem DQ{K:PySem.W.Frag}{g:D→D→R D}{fa fb:FX}{σ:L2.St}{H:Hp}{Q:VK}(h:tX K cl (x2 g fa fb) σ H Q) :
 Eb (fun x y H Q=>∃B da db d,(∀a∈B,∃o,H a=some o)∧Rep K B H da x∧Rep K B H db y∧g da db= .ok d∧∀z H',aN H H'→Rep K B H' d z→Q z H') (tX K cl fa) (tX K cl fb) σ H Q:=by
 obtain⟨ρ,S,δ,v,S',E,hf,q⟩:=h
 obtain⟨a,S1,h1,h2⟩:=R3.ak hf
 obtain⟨b,S2,h3,h4⟩:=R3.ak h2
 match a,b,h1,h3,h4 with
 | .d x, .d y,h1,h3,h4=>
   obtain⟨d,S3,h5,h6⟩:=R3.ak h4
   obtain⟨h7,e⟩:=R3.of_ok h5
   cases h6
   subst e
   refine⟨ρ,S,δ, .d x,S1,E,h1,fun u1 ρ1 H1 p1 w1 r1=>⟨ρ1,S1,δ, .d y,_,E.to p1 w1,h3,fun u2 ρ2 H2 p2 w2 r2=>?_⟩⟩
   have r1':=r1.pre p2
   unfold aW at r1' r2
   exact⟨ρ2.b,x,y,d,w2.bs,r1',r2,h7,fun z H' s r=>q z ρ2 H' (p1.trans (p2.trans (Pre.same s))) (w2.same s) (by unfold aW;exact r)⟩
 | .d x, .loc _,_,_,h4=>cases h4
 | .d x, .lst _,_,_,h4=>cases h4
 | .d x, .tup _,_,_,h4=>cases h4
 | .loc _,_,_,_,h4=>cases h4
 | .lst _,_,_,_,h4=>cases h4
 | .tup _,_,_,_,h4=>cases h4
theorem ox{op:Operator}{g:D→D→R D}{a b:Expr}{fa fb:FX}{pos:Pos}(ho:iM X (binaryOp op) g)(ha:PX X cl a fa)(hb:PX X cl b fb):PX X cl (.BinOp a op b pos) (x2 g fa fb):=
 ⟨(vq ho.r ha.1 hb.1).imp fun σ H Q h=>DQ h⟩
theorem qF{op:CmpOp}{g:D→D→R D}{a b:Expr}{fa fb:FX}{pos:Pos}(ho:iM X (compareOp op) g)(ha:PX X cl a fa)(hb:PX X cl b fb)(hm:behindInMarks op b=false):PX X cl (.Compare a [op] [b] pos) (x2 g fa fb):=
 ⟨(uF ho.r ha.1 hb.1 hm).imp fun σ H Q h=>DQ h⟩
noncomputable def Ea(g:D→D→R D)(fa fb:FX):FB:=fun δ S=>(x2 g fa fb δ S).bind fun v S=>match v with | .d (.bl b)=> .ok b S | _=> .no
theorem qb{op:CmpOp}{g:D→D→R D}{a b:Expr}{fa fb:FX}{pos:Pos}(ho:iM X (compareOp op) g)(ha:PX X cl a fa)(hb:PX X cl b fb)(hm:behindInMarks op b=false):yk X cl (.Compare a [op] [b] pos) (Ea g fa fb):=
 ⟨(uX ho.r ha.1 hb.1 hm).imp fun σ H Q ⟨ρ,S,δ,b,S',E,hf,q⟩=>by
   obtain⟨v,S1,h1,h2⟩:=R3.ak hf
   have hv:v= .d (.bl b)∧S1=S':=by
    match v,h2 with
    | .d (.bl k),h2=>cases h2;exact⟨rfl,rfl⟩
    | .d .cD,h2=>cases h2
    | .d (.int _),h2=>cases h2
    | .d (.str _),h2=>cases h2
    | .d (.lst _),h2=>cases h2
    | .d (.tup _),h2=>cases h2
    | .d (.dct _ _),h2=>cases h2
    | .loc _,h2=>cases h2
    | .lst _,h2=>cases h2
    | .tup _,h2=>cases h2
   obtain⟨rfl,rfl⟩:=hv
   exact DQ (g:=g) (Q:=fun x H'=>∃k,x= .bl k∧Q k H') ⟨ρ,S,δ,_,_,E,h1,fun u ρ' H' p w r=>⟨b,by unfold aW Rep at r;exact r,q ρ' H' p w⟩⟩⟩
inductive Ou where
 | nx (δ:DE) | rt (v:V3)
noncomputable abbrev FZ:=DE→aJ→R3 Ou
noncomputable def AW(K:PySem.W.Frag)(cl:Nat→Addr)(ρ:P3)(H:Hp)(D:Ends)(S':aJ):Ou→Prop
 | .nx δ'=>∀σ' ρ' H',Pre ρ H ρ' H'→d_ K cl ρ' H' S' σ' δ'→D.nx σ' H'
 | .rt v=>∀u ρ' H',Pre ρ H ρ' H'→SW K cl ρ' H' S'→aW K ρ' H' v u→D.rt u H'
theorem AW.pre{K:PySem.W.Frag}{ρ ρ1:P3}{H H1:Hp}{D:Ends}{S':aJ}{o:Ou}(q:AW K cl ρ H D S' o)(p:Pre ρ H ρ1 H1):AW K cl ρ1 H1 D S' o:=by
 cases o with
 | nx δ'=>exact fun σ' ρ' H' p' E'=>q σ' ρ' H' (p.trans p') E'
 | rt d=>exact fun v ρ' H' p' w r=>q v ρ' H' (p.trans p') w r
noncomputable def sX(K:PySem.W.Frag)(cl:Nat→Addr)(F:FZ):TS:=fun D σ H=>∃ρ S δ o S',d_ K cl ρ H S σ δ∧F δ S= .ok o S'∧AW K cl ρ H D S' o
structure PZ (X:Cx) (cl:Nat→Addr) (st:Stmt) (F:FZ):Prop where
 go:PS X st (sX X.K cl F)
structure xi (X:Cx) (cl:Nat→Addr) (st:List Stmt) (F:FZ):Prop where
 go:qS X st (sX X.K cl F)
noncomputable def oQ:FZ:=fun δ S=> .ok (.nx δ) S
noncomputable def bo(F G:FZ):FZ:=fun δ S=>(F δ S).bind fun o S1=>match o with | .nx δ'=>G δ' S1 | .rt d=> .ok (.rt d) S1
theorem jS:xi X cl [] oQ:=⟨uV.imp fun D σ H ⟨ρ,S,δ,o,S',E,hf,q⟩=>by
 cases hf
 exact q σ ρ H (Pre.refl ρ H) E⟩
theorem av{st:Stmt}{rest:List Stmt}{F G:FZ}(h1:PZ X cl st F)(h2:xi X cl rest G):xi X cl (st ::rest) (bo F G):=⟨(rE h1.1 h2.1).imp fun D σ H ⟨ρ,S,δ,o,S',E,hf,q⟩=>by
 obtain⟨o1,S1,h1,h2⟩:=R3.ak hf
 refine⟨ρ,S,δ,o1,S1,E,h1,?_⟩
 cases o1 with
 | nx δ1=>
   intro σ1 ρ1 H1 p1 E1
   exact⟨ρ1,S1,δ1,o,S',E1,h2,q.pre p1⟩
 | rt d=>
   cases h2
   exact q⟩
theorem aP{st:Stmt}{F:FZ}(h1:PZ X cl st F):xi X cl [st] F:=⟨vv h1.1⟩
noncomputable def cb(i:Nat)(f:FX):FZ:=fun δ S=>(f δ S).bind fun v S=>R3.bF (decide (i < δ.length)) (.ok (.nx (δ.set i (some v))) S)
theorem bb{i:Nat}{x:Str}{e:Expr}{f:FX}{pos pos':Pos}(hN:X.N.Nodup)(hi:X.N[i]? =some x)(hx:Loc X.env.scope x)(he:PX X cl e f)(hs:swapsWith e (some (.Name x pos')) pos.line X.env=pure false:=by rfl)(hf:X.fn x=true∨X.env.scope.names.lookup x=some .local:=by first | exact .inl rfl | exact .inr rfl | assumption) :
 PZ X cl (.Assign [.Name x pos'] e pos) (cb i f):=⟨(yC hN hi hx he.1 hs hf).imp fun D σ H ⟨ρ,S,δ,o,S',E,hf,q⟩=>by
 obtain⟨v,S1,h1,h2⟩:=R3.ak hf
 obtain⟨hi,h3⟩:=R3.ba h2
 cases h3
 refine⟨ρ,S,δ,v,_,E,h1,fun u ρ1 H1 p1 w1 r1=>?_⟩
 exact q _ ρ1 H1 p1 ((E.to p1 w1).set (by rw[←E.len];exact of_decide_eq_true hi) r1)⟩
noncomputable def gb(f:FX):FZ:=fun δ S=>(f δ S).bind fun v S=> .ok (.rt v) S
theorem cO{e:Expr}{f:FX}{pos:Pos}(he:PX X cl e f):PZ X cl (.Return (some e) pos) (gb f):=⟨(x9 he.1).imp fun D σ H ⟨ρ,S,δ,o,S',E,hf,q⟩=>by
 obtain⟨v,S1,h1,h2⟩:=R3.ak hf
 cases h2
 exact⟨ρ,S,δ,v,_,E,h1,fun u ρ1 H1 p1 w1 r1=>q u ρ1 H1 p1 w1 r1⟩⟩
noncomputable def x6(c:FB)(F G:FZ):FZ:=fun δ S=>(c δ S).bind fun b S=>if b then F δ S else G δ S
theorem nX{c:Expr}{a b:List Stmt}{fc:FB}{F G:FZ}{pos:Pos}(hc:yk X cl c fc)(ha:xi X cl a F)(hb:xi X cl b G):PZ X cl (.If c a b pos) (x6 fc F G):=⟨(BF hc.1 ha.1 hb.1).imp fun D σ H ⟨ρ,S,δ,o,S',E,hf,q⟩=>by
 obtain⟨k,S1,h1,h2⟩:=R3.ak hf
 refine⟨ρ,S,δ,k,S1,E,h1,fun ρ1 H1 p1 w1=>?_⟩
 cases k with
 | true=>rw [if_pos rfl] at h2;exact yh ⟨ρ1,S1,δ,o,S',E.to p1 w1,h2,q.pre p1⟩
 | false=>rw [if_neg (by decide)] at h2;exact xV ⟨ρ1,S1,δ,o,S',E.to p1 w1,h2,q.pre p1⟩⟩
noncomputable def HR(f:FX):FZ:=fun δ S=>(f δ S).bind fun _ S=> .ok (.nx δ) S
noncomputable def jV(c:FB)(body:FZ):Nat→FZ
 | 0,_,_=> .no
 | n+1,δ,S=>(c δ S).bind fun b S=>if b then(body δ S).bind fun o S=>match o with | .nx δ2=>jV c body n δ2 S | .rt r=> .ok (.rt r) S else .ok (.nx δ) S
noncomputable def tF(n:Nat)(c:FB)(body:FZ):FZ:=fun δ S=>jV c body n δ S
theorem yZ(n:Nat){c:Expr}{body:List Stmt}{fc:FB}{F:FZ}{pos:Pos}(hp:PassesOwn (model X.prog X.w) X.A X.env X.xe)(hc:yk X cl c fc)(hb:xi X cl body F):PZ X cl (.While c body [] pos) (tF n fc F):=
 ⟨(ye hp hc.1 hb.1).imp fun D σ H ⟨ρ,S,δ,o,S',E,hf,q⟩=>by
   refine⟨fun m σ' H'=>∃ρ1 S1 δ1,Pre ρ H ρ1 H'∧d_ X.K cl ρ1 H' S1 σ' δ1∧jV fc F m δ1 S1= .ok o S',⟨n,ρ,S,δ,Pre.refl ρ H,E,hf⟩,?_⟩
   rintro m σ' H' ⟨ρ1,S1,δ1,p1,E1,hw⟩
   cases m with
   | zero=>cases hw
   | succ m=>
     obtain⟨b,S2,h1,h2⟩:=R3.ak hw
     refine⟨ρ1,S1,δ1,b,S2,E1,h1,fun ρ2 H2 p2 w2=>?_⟩
     cases b with
     | false=>
       rw[if_neg (by decide)] at h2
       cases h2
       exact xV (q σ' ρ2 H2 (p1.trans p2) (E1.to p2 w2))
     | true=>
       rw[if_pos rfl] at h2
       obtain⟨o1,S3,h3,h4⟩:=R3.ak h2
       refine yh ⟨fun σ4 H4=>∃ρ4 S4 δ4,Pre ρ H ρ4 H4∧d_ X.K cl ρ4 H4 S4 σ4 δ4∧jV fc F m δ4 S4= .ok o S',fun σ4 H4 n=>⟨m,Nat.lt_succ_self _,n⟩,ρ2,S2,δ1,o1,S3,E1.to p2 w2,h3,?_⟩
       cases o1 with
       | nx δ2=>exact fun σ3 ρ3 H3 p3 E3=>⟨ρ3,S3,δ2,(p1.trans p2).trans p3,E3,h4⟩
       | rt d=>
         cases h4
         exact fun v ρ3 H3 p3 w r=>q v ρ3 H3 ((p1.trans p2).trans p3) w r⟩
end
end L3
end
section
set_option maxRecDepth 100000
set_option maxHeartbeats 4000000
namespace L3
open PySem PySem.Spec PyProof.Rows L2
theorem aA.get{K:PySem.W.Frag}{ρ:P3}{H:Hp}:∀{ds:List V3} {xs:List V} {i:Nat} {d:V3},aA K ρ H ds xs→ds[i]? =some d→∃x,xs[i]? =some x∧aW K ρ H d x
 | [],_,_,_,_,e=>by simp at e
 | d ::ds,xs,0,d',h,e=>by
   obtain⟨x,r,rfl,h1,h2⟩:=h.bU
   simp at e;subst e
   exact⟨x,rfl,h1⟩
 | d ::ds,xs,i+1,d',h,e=>by
   obtain⟨x,r,rfl,h1,h2⟩:=h.bU
   obtain⟨y,e1,e2⟩:=aA.get (i:=i) h2 (by simpa using e)
   exact⟨y,by simpa using e1,e2⟩
noncomputable def Eh(K:PySem.W.Frag)(ρ:P3)(H:Hp)(J:It)(vs:List V3):Prop:=∀ρ' H',PW ρ H ρ' H'→(∀a∈ρ'.b,∃o,H' a=some o)→(∀(i:Nat) (d:V3),vs[i]? =some d→J.go i H'∧∀x H'',J.yld i H' x H''→aN H' H''∧aW K ρ' H'' d x)∧J.stop vs.length H'
theorem Eh.of{K:PySem.W.Frag}{ρ:P3}{H:Hp}{J:It}{ds:List D}(h:za K ρ.b H J ds):Eh K ρ H J (ds.map .d):=fun ρ' H' p bs=>by
 obtain⟨h1,h2⟩:=h ρ'.b H' p.bg
 refine⟨fun i v hv=>?_,by rw[List.length_map];exact h2⟩
 rw[List.getElem?_map] at hv
 cases e:ds[i]? with
 | none=>rw [e] at hv;cases hv
 | some d=>
   rw[e] at hv
   cases hv
   obtain⟨g1,g2⟩:=h1 i d e
   exact⟨g1,fun x H'' y=>let⟨s,r⟩:=g2 x H'' y bs;⟨s,by unfold aW;exact r⟩⟩
noncomputable def Hl(K:PySem.W.Frag)(cl:Nat→Addr)(f:FA):TI:=fun σ H R=>∃ρ S δ vs S',d_ K cl ρ H S σ δ∧f δ S= .ok vs S'∧∀J ρ1 H1,Pre ρ H ρ1 H1→SW K cl ρ1 H1 S'→Eh K ρ1 H1 J vs→R J H1
structure DI (X:Cx) (cl:Nat→Addr) (tg e:Expr) (f:FA):Prop where
 go:PI X tg e (Hl X.K cl f)
section
variable {X:Cx} {cl:Nat→Addr}
noncomputable def iP(f:aw→R (List D)):FA:=fun δ S=>(R3.of (f (down δ)) S).bind fun ds S=> .ok (ds.map .d) S
theorem cH{tg e:Expr}{f:aw→R (List D)}(h:vJ X tg e f):DI X cl tg e (iP f):=⟨h.1.imp fun σ H Q ⟨ρ,S,δ,vs,S',E,hf,q⟩=>by
 obtain⟨ds,S1,h1,h2⟩:=R3.ak hf
 obtain⟨h3,e3⟩:=R3.of_ok h1
 cases h2
 subst e3
 exact⟨[],ρ.b,down δ,ds,E.down,h3,fun J H1 s r=>q J ρ H1 (Pre.same s) (E.sw.same s) (Eh.of r)⟩⟩
noncomputable def kh(f:FX):FA:=fun δ S=>(f δ S).bind fun v S=>match v with | .d (.int j)=>R3.bF (decide (-(2 ^ 62)≤j∧j < 2 ^ 62)) (.ok ((bZ 0 j.toNat).map .d) S) | _=> .no
theorem fE{tg a:Expr}{f:FX}{p pos:Pos}(h:PX X cl a f)(hg:Gl X "range")(hm:X.mg "range"=none)(hs:starEach [a] X.env=[(false,eval a X.env)]:=by rfl):DI X cl tg (.Call (.Name "range" p) [a] [] pos) (kh f):=
 ⟨(pA hg hm (eU h.1 g9 hs) hs).imp fun σ H RR ⟨ρ,S,δ,vs,S',E,hf,q⟩=>by
   obtain⟨v,S1,h1,h2⟩:=R3.ak hf
   match v,h1,h2 with
   | .d (.int j),h1,h2=>
     obtain⟨hb,h3⟩:=R3.ba h2
     cases h3
     have hb:=of_decide_eq_true hb
     refine⟨ρ,S,δ, .d (.int j),_,E,h1,fun u ρ1 H1 p1 w1 r1=>⟨j,?_,hb.1,hb.2,q _ ρ1 H1 p1 w1 (Eh.of (xB 0 _))⟩⟩
     unfold aW Rep at r1
     rw[r1]
   | .d .cD,_,h2=>cases h2
   | .d (.bl _),_,h2=>cases h2
   | .d (.str _),_,h2=>cases h2
   | .d (.lst _),_,h2=>cases h2
   | .d (.tup _),_,h2=>cases h2
   | .d (.dct _ _),_,h2=>cases h2
   | .loc _,_,h2=>cases h2
   | .lst _,_,h2=>cases h2
   | .tup _,_,h2=>cases h2⟩
noncomputable def y0(f:FX):FA:=fun δ S=>(f δ S).bind fun v S=>match v with | .d (.lst ds)=> .ok (ds.map .d) S | .lst vs=> .ok vs S | _=> .no
theorem qD{tg e:Expr}{f:FX}(h:PX X cl e f):DI X cl tg e (y0 f):=⟨by
 intro pins s σ H RR I ⟨ρ,S,δ,vs,S',E,hf,q⟩
 obtain⟨v,S1,h1,h2⟩:=R3.ak hf
 refine dg (h.1 pins s σ H (fun u H1=>∃ρ1,Pre ρ H ρ1 H1∧SW X.K cl ρ1 H1 S1∧aW X.K ρ1 H1 v u) I ⟨ρ,S,δ,v,S1,E,h1,fun u ρ1 H1 p1 w1 r1=>⟨ρ1,p1,w1,r1⟩⟩) fun u s1 ⟨x,H1,I1,r1,ρ1,p1,w1,rr⟩=>?_
 have key:S1=S'∧∃a xs,x= .ref a∧m5 X.K ρ1.b H1 a xs∧aA X.K ρ1 H1 vs xs:=by
  match v,h2,rr with
  | .d (.lst ds),h2,rr=>
    cases h2
    unfold aW Rep at rr
    obtain⟨a,xs,e,l,r⟩:=rr
    exact⟨rfl,a,xs,e,l,aA.of r⟩
  | .lst ws,h2,rr=>
    cases h2
    unfold aW at rr
    exact⟨rfl,rr⟩
  | .d .cD,h2,_=>cases h2
  | .d (.bl _),h2,_=>cases h2
  | .d (.int _),h2,_=>cases h2
  | .d (.str _),h2,_=>cases h2
  | .d (.tup _),h2,_=>cases h2
  | .d (.dct _ _),h2,_=>cases h2
  | .loc _,h2,_=>cases h2
  | .tup _,h2,_=>cases h2
 obtain⟨rfl,a,xs,rfl,l,rr⟩:=key
 cases r1
 obtain⟨its,rv,p,hz⟩:=I1.list l.sq
 refine wpAny_pyIter_list p.isList ?_
 refine⟨s1.heap.objs.size,[s1.heap.objs.size],_,_,H1,rfl,I1.kept (t':=s1.toks) fun b o e=>Heap.get?_push_of_some _ e,pe a _,⟨_,Heap.get?_push_size _ rfl,rfl,rfl⟩,fun b hb=>?_,q _ ρ1 H1 p1 w1 fun ρ' H' pr bs=>?_⟩
 ·have e:b=s1.heap.objs.size:=by simpa using hb
  subst e
  exact I1.oV (Nat.le_refl _) (I1.hok.fresh (Nat.le_refl _))
 ·have l':m5 X.K ρ'.b H' a xs:=l.bg pr.bg
  have rr':=rr.pw pr
  refine⟨fun i d hd=>?_,⟨xs,l'.sq,by rw[rr.length];exact Nat.le_refl _⟩⟩
  obtain⟨x,hx,rx⟩:=rr'.get hd
  exact⟨⟨xs,x,l'.sq,hx⟩,fun y H'' ⟨e1,e2⟩=>by
   subst e1
   have:=e2 xs l'.sq
   rw[hx] at this
   cases this
   exact⟨aN.refl _,rx⟩⟩⟩
noncomputable abbrev FG:=V3→DE→Option DE
noncomputable abbrev Aj:=List V3→DE→Option DE
noncomputable def gX(K:PySem.W.Frag)(cl:Nat→Addr)(t:FG):TG:=fun v σ H Q=>∃ρ S δ x δ',d_ K cl ρ H S σ δ∧aW K ρ H x v∧t x δ=some δ'∧∀σ' H',aN H H'→d_ K cl ρ H' S σ' δ'→Q σ' H'
noncomputable def Iq(K:PySem.W.Frag)(cl:Nat→Addr)(t:Aj):y4:=fun v σ H Q=>∃ρ S δ x δ',d_ K cl ρ H S σ δ∧aA K ρ H x v∧t x δ=some δ'∧∀σ' H',aN H H'→d_ K cl ρ H' S σ' δ'→Q σ' H'
structure DF (X:Cx) (cl:Nat→Addr) (tg:Expr) (t:FG):Prop where
 go:PG X tg (gX X.K cl t)
structure Bl (X:Cx) (cl:Nat→Addr) (tg:List Expr) (t:Aj):Prop where
 go:Bp X tg (Iq X.K cl t)
theorem d_.same{K:PySem.W.Frag}{ρ:P3}{H H':Hp}{S:aJ}{σ:L2.St}{δ:DE}(E:d_ K cl ρ H S σ δ)(s:aN H H'):d_ K cl ρ H' S σ δ:=E.to (Pre.same s) (E.sw.same s)
noncomputable def ic(i:Nat):FG:=fun d δ=>if i < δ.length then some (δ.set i (some d)) else none
theorem a_{i:Nat}{x:Str}{pos:Pos}(hN:X.N.Nodup)(hi:X.N[i]? =some x)(hx:Loc X.env.scope x)(hf:X.fn x=true∨X.env.scope.names.lookup x=some .local:=by first | exact .inl rfl | exact .inr rfl | assumption):DF X cl (.Name x pos) (ic i):=
 ⟨(vy hN hi hx hf).imp fun v σ H Q ⟨ρ,S,δ,d,δ',E,r,ht,q⟩=>by
   unfold ic at ht
   split at ht
   ·rename_i hi
    cases ht
    exact q _ H (aN.refl H) (E.set (by rw[←E.len];exact hi) r)
   ·cases ht⟩
noncomputable def wg:Aj:=fun ds δ=>match ds with | []=>some δ | _=>none
noncomputable def qP(t:FG)(u:Aj):Aj:=fun ds δ=>match ds with | d ::r=>(t d δ).bind fun δ'=>u r δ' | []=>none
theorem lq:Bl X cl [] wg:=⟨vx.imp fun vs σ H Q ⟨ρ,S,δ,ds,δ',E,r,ht,q⟩=>by
 cases ds with
 | nil=>unfold aA at r;cases ht;exact⟨r,q σ H (aN.refl H) E⟩
 | cons=>cases ht⟩
theorem d3{e:Expr}{es:List Expr}{t:FG}{u:Aj}(h1:DF X cl e t)(h2:Bl X cl es u)(hs:(assignEach (e ::es) X.env).map (·.2)=assign e X.env ::(assignEach es X.env).map (·.2):=by rfl):Bl X cl (e ::es) (qP t u):=
 ⟨(qU h1.1 h2.1 hs).imp fun vs σ H Q ⟨ρ,S,δ,ds,δ',E,r,ht,q⟩=>by
   cases ds with
   | nil=>cases ht
   | cons d ds=>
     obtain⟨x,xs,rfl,r1,r2⟩:=r.bU
     have ht:(t d δ).bind (fun δ'=>u ds δ')=some δ':=ht
     cases e1:t d δ with
     | none=>rw [e1] at ht;cases ht
     | some δ1=>
       rw[e1] at ht
       exact⟨x,xs,rfl,ρ,S,δ,d,δ1,E,r1,e1,fun σ1 H1 s1 E1=>⟨ρ,S,δ1,ds,δ',E1,r2.pre (Pre.same s1),ht,fun σ2 H2 s2 E2=>q σ2 H2 (s1.trans s2) E2⟩⟩⟩
noncomputable def vg(n:Nat)(t:Aj):FG:=fun d δ=>match d with
 | .d (.tup ds)=>if ds.length=n then t (ds.map .d) δ else none
 | .tup vs=>if vs.length=n then t vs δ else none
 | _=>none
theorem mS{es:List Expr}{k:Nat}{t:Aj}{n:Nat}{pos:Pos}(hc:X.calm=true)(h:Bl X cl es t)(hn:(assignEach es X.env).length=n:=by rfl)(hst:(assignEach es X.env).findIdx? (·.1)=none:=by rfl):DF X cl (.Tuple es k pos) (vg n t):=
 ⟨(zH hc h.1 hn hst).imp fun v σ H Q ⟨ρ,S,δ,d,δ',E,r,ht,q⟩=>by
   have key:∃vs a xs,v= .ref a∧qB X.K ρ.b H a xs∧aA X.K ρ H vs xs∧vs.length=n∧t vs δ=some δ':=by
    unfold vg at ht
    split at ht
    ·rename_i ds
     split at ht
     ·rename_i hl
      unfold aW Rep at r
      obtain⟨a,xs,e,l,r⟩:=r
      exact⟨ds.map .d,a,xs,e,l,aA.of r,by rw[List.length_map];exact hl,ht⟩
     ·cases ht
    ·rename_i vs
     split at ht
     ·rename_i hl
      unfold aW at r
      obtain⟨a,xs,e,l,r⟩:=r
      exact⟨vs,a,xs,e,l,r,hl,ht⟩
     ·cases ht
    ·cases ht
   obtain⟨vs,a,xs,rfl,l,r,hl,ht⟩:=key
   exact⟨a,xs,rfl,l.sq,by rw[←r.length];exact hl,ρ,S,δ,vs,δ',E,r,ht,q⟩⟩
noncomputable def Du(f:FX)(t:FG):FZ:=fun δ S=>(f δ S).bind fun d S=>match t d δ with | some δ'=> .ok (.nx δ') S | none=> .no
theorem Dk{tg e:Expr}{f:FX}{t:FG}{pos:Pos}(he:PX X cl e f)(hg:DF X cl tg t)(hs:swapsWithSole [tg] e pos.line X.env=pure false:=by rfl)(hw:swappedStores [tg] e X.env=pure none:=by rfl)
 (h1:(assignEach [tg] X.env).map (·.2)=[assign tg X.env]:=by rfl):PZ X cl (.Assign [tg] e pos) (Du f t):=⟨(xF he.1 hg.1 hs hw h1).imp fun D σ H ⟨ρ,S,δ,o,S',E,hf,q⟩=>by
 obtain⟨d,S1,h1,h2⟩:=R3.ak hf
 split at h2
 ·rename_i δ1 e1
  cases h2
  exact⟨ρ,S,δ,d,_,E,h1,fun v ρ1 H1 p1 w1 r1=>⟨ρ1,_,δ,d,δ1,E.to p1 w1,r1,e1,fun σ' H2 s2 E2=>q σ' ρ1 H2 (p1.trans (Pre.same s2)) E2⟩⟩
 ·cases h2⟩
noncomputable def lz(t:FG)(body:FZ):List V3→FZ
 | [],δ,S=> .ok (.nx δ) S
 | d ::ds,δ,S=>match t d δ with
   | none=> .no
   | some δ1=>(body δ1 S).bind fun o S=>match o with | .nx δ2=>lz t body ds δ2 S | .rt r=> .ok (.rt r) S
noncomputable def jx(it:FA)(t:FG)(body:FZ):FZ:=fun δ S=>(it δ S).bind fun vs S=>lz t body vs δ S
theorem eA{tg iter:Expr}{body:List Stmt}{it:FA}{t:FG}{F:FZ}{pos:Pos}(hp:PassesOwn (model X.prog X.w) X.A X.env X.xe)(hc:X.calm=true)(hi:DI X cl tg iter it)(hg:DF X cl tg t)(hb:xi X cl body F)
 (hs:∀x,foldedSetIterable iter X.env x=pure x:=by intro _;rfl):PZ X cl (.For tg iter body [] pos) (jx it t F):=⟨(xr hp hc hi.1 hg.1 hb.1 hs).imp fun D σ H ⟨ρ,S,δ,o,S',E,hf,q⟩=>by
 obtain⟨ds,S0,h1,h2⟩:=R3.ak hf
 refine⟨ρ,S,δ,ds,S0,E,h1,fun J ρ1 H1 p1 w1 ir=>?_⟩
 refine⟨fun i m σ' H'=>m=ds.length - i∧i≤ds.length∧∃ρ' S1 δ',Pre ρ1 H1 ρ' H'∧d_ X.K cl ρ' H' S1 σ' δ'∧lz t F (ds.drop i) δ' S1= .ok o S',⟨ds.length,rfl,Nat.zero_le _,ρ1,S0,δ,Pre.refl ρ1 H1,E.to p1 w1,by simpa using h2⟩,?_⟩
 rintro i m σ' H' ⟨rfl,hi,ρ',S1,δ',pv,E',hl⟩
 obtain⟨go,stop⟩:=ir ρ' H' pv.pw E'.sw.bs
 by_cases hlt:i < ds.length
 ·have hd:ds[i]? =some ds[i]:=List.getElem?_eq_getElem hlt
  have hdrop:ds.drop i=ds[i] ::ds.drop (i+1):=List.drop_eq_getElem_cons hlt
  rw[hdrop] at hl
  unfold lz at hl
  split at hl
  ·cases hl
  ·rename_i δ1 h3
   obtain⟨o1,S2,h5,h6⟩:=R3.ak hl
   obtain⟨g1,g2⟩:=go i _ hd
   refine .inr ⟨g1,fun σ2 H2=>∃ρ2 S2 δ2,Pre ρ1 H1 ρ2 H2∧d_ X.K cl ρ2 H2 S2 σ2 δ2∧lz t F (ds.drop (i+1)) δ2 S2= .ok o S',fun σ2 H2 n=>⟨ds.length - (i+1),by omega,rfl,hlt,n⟩,fun x H'' y=>?_⟩
   obtain⟨ss,rr⟩:=g2 x H'' y
   refine⟨ρ',S1,δ',ds[i],δ1,E'.same ss,rr,h3,fun σ2 H2 s2 E2=>⟨ρ',S1,δ1,o1,S2,E2,h5,?_⟩⟩
   have pv2:Pre ρ1 H1 ρ' H2:=pv.trans (Pre.same (ss.trans s2))
   cases o1 with
   | nx δ2=>exact fun σ3 ρ3 H3 p3 E3=>⟨ρ3,S2,δ2,pv2.trans p3,E3,h6⟩
   | rt d=>
     cases h6
     exact fun v ρ3 H3 p3 w r=>q v ρ3 H3 (p1.trans (pv2.trans p3)) w r
 ·have e:i=ds.length:=by omega
  subst e
  rw[List.drop_length] at hl
  cases hl
  exact .inl ⟨stop,q σ' ρ' H' (p1.trans pv) E'⟩⟩
end
end L3
end
section
set_option maxRecDepth 100000
set_option maxHeartbeats 4000000
namespace L3
open PySem PySem.Spec PyProof.Rows L2
mutual
noncomputable def jA(n:Nat):V3→Bool
 | .d _=>true
 | .loc k=>decide (k < n)
 | .lst vs=>fV n vs
 | .tup vs=>fV n vs
noncomputable def fV(n:Nat):List V3→Bool
 | []=>true
 | v ::vs=>jA n v && fV n vs
end
noncomputable def mE(n:Nat):SO→Bool
 | .ins _ fs=>fV n (fs.map (·.2))
 | _=>true
theorem A1{ρ:P3}{n:Nat}{b:Addr}(h:b∈(ρ.cut n).b):b∈ρ.b:=by
 rcases P3.dh.mp h with z | z
 ·exact P3.dh.mpr (.inl ⟨List.mem_of_mem_take z.1,z.2⟩)
 ·exact P3.dh.mpr (.inr z)
theorem gq{ρ:P3}{H:Hp}(n:Nat):d6 ρ.b H (ρ.cut n).b H:=fun b o e nb=>⟨e,fun hb=>nb (A1 hb)⟩
mutual
theorem aW.cut{K:PySem.W.Frag}{ρ:P3}{H:Hp}{n:Nat}:∀{v:V3} {x:V},jA n v=true→aW K ρ H v x→aW K (ρ.cut n) H v x
 | .d y,x,_,h=>by unfold aW at h ⊢;exact h.bg (gq n)
 | .loc k,x,o,h=>by
   unfold aW at h ⊢
   unfold jA at o
   obtain⟨a,h1,h2⟩:=h
   exact⟨a,by show(ρ.r.take n)[k]? =_;rw [List.getElem?_take_of_lt (of_decide_eq_true o)];exact h1,h2⟩
 | .lst vs,x,o,h=>by
   unfold aW at h ⊢
   unfold jA at o
   obtain⟨a,xs,e,l,r⟩:=h
   exact⟨a,xs,e,l.bg (gq n),aA.cut o r⟩
 | .tup vs,x,o,h=>by
   unfold aW at h ⊢
   unfold jA at o
   obtain⟨a,xs,e,l,r⟩:=h
   exact⟨a,xs,e,qB.bg (gq n) l,aA.cut o r⟩
theorem aA.cut{K:PySem.W.Frag}{ρ:P3}{H:Hp}{n:Nat}:∀{vs:List V3} {xs:List V},fV n vs=true→aA K ρ H vs xs→aA K (ρ.cut n) H vs xs
 | [],_,_,h=>by unfold aA at h ⊢;exact h
 | v ::vs,xs,o,h=>by
   unfold fV at o
   obtain⟨o1,o2⟩:=Bool.and_eq_true_iff.mp o
   obtain⟨x,r,rfl,h1,h2⟩:=h.bU
   exact aA.cons (aW.cut o1 h1) (aA.cut o2 h2)
end
theorem SW.cut{K:PySem.W.Frag}{cl:Nat→Addr}{ρ:P3}{H:Hp}{S:aJ}(w:SW K cl ρ H S){n:Nat}(ok:(S.take n).all (mE n)=true):SW K cl (ρ.cut n) H (S.take n):=
 ⟨by show(ρ.r.take n).length=_;rw [List.length_take,List.length_take,w.len],fun i j a hi hj=>by
   have hi:(ρ.r.take n)[i]? =some a:=hi
   have hj:(ρ.r.take n)[j]? =some a:=hj
   have gi:ρ.r[i]? =some a:=by
    rw[List.getElem?_take] at hi;split at hi
    ·exact hi
    ·cases hi
   have gj:ρ.r[j]? =some a:=by
    rw[List.getElem?_take] at hj;split at hj
    ·exact hj
    ·cases hj
   exact w.nd i j a gi gj,fun k a o hk ho=>by
   have hk:(ρ.r.take n)[k]? =some a:=hk
   have gk:ρ.r[k]? =some a:=by
    rw[List.getElem?_take] at hk;split at hk
    ·exact hk
    ·cases hk
   have go:S[k]? =some o:=by
    rw[List.getElem?_take] at ho;split at ho
    ·exact ho
    ·cases ho
   have r:=w.ob k a o gk go
   have oo:mE n o=true:=List.all_eq_true.mp ok o (List.mem_of_getElem? ho)
   cases o with
   | lst ds=>obtain⟨xs,e,q⟩:=r;exact⟨xs,e,q.bg (gq n)⟩
   | dct kvs=>obtain⟨ys,e,e2,q⟩:=r;exact⟨ys,e,e2,q.bg (gq n)⟩
   | ins c fs=>obtain⟨dx,ys,e,e2,q⟩:=r;exact⟨dx,ys,e,e2,q.cut oo⟩
   | g6=>exact r,fun b hb=>let⟨h1,h2⟩:=w.zb b hb;⟨h1,fun h=>h2 (List.mem_of_mem_take h)⟩,(fun k a hk ho=>by
   have hk:(ρ.r.take n)[k]? =some a:=hk
   rw[List.getElem?_take] at hk
   split at hk
   ·rename_i hlt
    rw[List.getElem?_take_of_lt hlt] at ho
    exact w.fz k a hk ho
   ·cases hk),w.ff,(fun k a hk ho=>by
   have hk:(ρ.r.take n)[k]? =some a:=hk
   rw[List.getElem?_take] at hk
   split at hk
   ·rename_i hlt
    rw[List.getElem?_take_of_lt hlt] at ho
    exact w.fi k a hk ho
   ·cases hk)⟩
theorem SW.Dn{K:PySem.W.Frag}{cl:Nat→Addr}{ρ ρ':P3}{H H':Hp}{n:Nat}(hn:ρ.r.length≤n)(p:Pre ρ H ρ' H'):Pre ρ H (ρ'.cut n) H':=
 ⟨p.bg.trans (gq n),p.zz,p.zs,fun k a h=>by show(ρ'.r.take n)[k]? =_;rw [List.getElem?_take_of_lt (Nat.lt_of_lt_of_le (List.getElem?_eq_some_iff.mp h).1 hn)];exact p.ext k a h⟩
section
variable {X:Cx} {cl:Nat→Addr}
noncomputable def cg(S:aJ)(k:Nat):Option (List D):=match S[k]? with | some (.lst ds)=>some ds | _=>none
theorem cZ{S:aJ}{k:Nat}{ds:List D}(h:cg S k=some ds):S[k]? =some (.lst ds):=by
 unfold cg at h
 split at h
 ·rename_i e;cases h;exact e
 ·cases h
noncomputable def fu(δ:DE)(i:Nat):Option Nat:=match δ[i]? with | some (some (.loc k))=>some k | _=>none
theorem kD{δ:DE}{i k:Nat}(h:fu δ i=some k):δ[i]? =some (some (.loc k)):=by
 unfold fu at h
 split at h
 ·rename_i e;cases h;exact e
 ·cases h
noncomputable def iq(i:Nat)(f:FX):FZ:=fun δ S=>match fu δ i with
 | none=> .no
 | some k=>match cg S k with
   | none=> .no
   | some _=>(f δ S).bind fun v S1=>match v with
     | .d d=>(match cg S1 k with | some ds=>R3.bF (decide (ds.length < sizeLine)) (.ok (.nx δ) (S1.set k (.lst (ds++[d])))) | none=> .no)
     | _=> .no
theorem fH{i:Nat}{x:Str}{e:Expr}{f:FX}{npos apos cpos pos:Pos}(hN:X.N[i]? =some x)(hv:D9 X.env.scope x)(he:PX X cl e f)
 (hd:(x==("__debug__":Str))=false:=by decide) (hcd:(x==("__classdict__":Str))=false:=by decide)
 (hs:starEach [e] X.env=(false,eval e X.env) ::starEach [] X.env:=by rfl) (hline:(apos.endLine==cpos.line)=true:=by rfl)
 (hfew:((backTo cpos (starEach [e] X.env)).all (fun x=>!x.1) && (backToKw cpos (keywordEach [] X.env)).all (fun x=>x.1.isSome)
   && decide (([e]:List Expr).length+([]:List Keyword).length+(if([]:List Keyword).isEmpty then 0 else 1) < 30))=true:=by rfl)
 (hsw:swapsWith (.Call (.Attribute (.Name x npos) "append" apos) [e] [] cpos) none pos.line X.env=pure false:=by rfl)
 (hbase:attributeBase (.Name x npos) "append" X.env (eval (.Name x npos) X.env)=eval (.Name x npos) X.env:=by rfl) :
 PZ X cl (.Expr (.Call (.Attribute (.Name x npos) "append" apos) [e] [] cpos) pos) (iq i f):=by
 refine⟨(vU (yg (X:=X) PySem.F.plainAttrs_list PySem.F.slot_list_append PySem.F.type_list_append lC (tS hN hv hd hcd) (eU he.1 g9 hs) hbase hfew hline hs) hsw).imp fun D σ H ⟨ρ,S,δ,o,S',E,hf,q⟩=>?_⟩
 unfold iq at hf
 split at hf
 ·cases hf
 ·rename_i k hk
  split at hf
  ·cases hf
  ·rename_i ds0 h0
   obtain⟨v,S1,h1,h2⟩:=R3.ak hf
   split at h2
   ·rename_i d
    split at h2
    ·rename_i ds h3
     obtain⟨hl,h4⟩:=R3.ba h2
     cases h4
     obtain⟨u,u1,u2⟩:=E.val i _ (kD hk)
     unfold aW at u2
     obtain⟨a,a1,rfl⟩:=u2
     obtain⟨xs0,x0,_⟩:=E.sw.ob k a _ a1 (cZ h0)
     refine⟨.ref a,u1, .inl ⟨rfl,xs0,k3.of x0⟩,⟨ρ,S,δ, .d d,S1,E,h1,fun y ρ1 H1 p1 w1 r1=>?_⟩⟩
     have b1:=p1.ext k a a1
     obtain⟨xs,x1,x2⟩:=w1.ob k a _ b1 (cZ h3)
     refine⟨a,xs,y,rfl,rfl,x1,by rw[←x2.length];exact of_decide_eq_true hl,?_⟩
     unfold aW at r1
     obtain⟨w2,p2⟩:=w1.put (o:= .lst (ds++[d])) (u:= .lst (xs++[y])) b1 (w1.fz k a b1 (by rw[cZ h3];intro h;cases h)) ⟨xs++[y],rfl,x2.append (aC.cons r1 aC.nil)⟩
     exact q σ ρ1 _ (p1.trans p2) (E.to (p1.trans p2) w2)
    ·cases h2
   ·cases h2
noncomputable def tu(fo fi fe:FX):FZ:=fun δ S=>(fe δ S).bind fun v S1=>(fo δ S1).bind fun o S2=>(fi δ S2).bind fun j S3=>match v,o,j with
 | .d d, .loc k, .d (.int n)=>(match cg S3 k with
   | some ds=>(match m8 ds.length n with | some m=> .ok (.nx δ) (S3.set k (.lst (ds.set m d))) | none=> .no)
   | none=> .no)
 | _,_,_=> .no
noncomputable def yB(K:PySem.W.Frag)(cl:Nat→Addr)(n:Nat)(g:List V3→aJ→R3 V3):Sp:=fun vs H Q _=>vs.length=n∧∃ρ S xs v S',SW K cl ρ H S∧aA K ρ H xs vs∧g xs S= .ok v S'∧∀u ρ' H',Pre ρ H ρ' H'→SW K cl ρ' H' S'→aW K ρ' H' v u→Q u H'
noncomputable def bt(g:List V3→aJ→R3 V3)(fs:FA):FX:=fun δ S=>(fs δ S).bind g
noncomputable def ay(P:Program)(w:World)(K:PySem.W.Frag)(mg:Str→Option Value)(base:Heap)(cl:Nat→Addr)(k:Nat)(x:Str)(n:Nat)(g:List V3→aJ→R3 V3):Prop:=
 ∃(f:Addr) (fd:FuncData) (ps:List Str),gC P w K mg base pP k f fd ps (yB K cl n g)∧mg x=some (.ref f)∧PySem.W.keepIn K (.ref f)=true∧Binds K fd ps []
theorem aT{g:List V3→aJ→R3 V3}{k j n:Nat}{x:Str}{p pos:Pos}{e:Expr}{es:List Expr}{fs:FA}(C:ay X.prog X.w X.K X.mg X.base cl k x n g)(hr:dG j X.A)(hkj:k≤j)(hg:Gl X x)(ha:zZ X cl (e ::es) fs)
 (hn:∀δ S ds S',fs δ S= .ok ds S'→ds.length=n) (hdb:(x==("__debug__":Str))=false:=by decide) (he:starEach (e ::es) X.env=(false,eval e X.env) ::starEach es X.env:=by rfl) (hpl:(backTo pos (starEach es X.env)).any (·.1)=false:=by rfl) :
 PX X cl (.Call (.Name x p) (e ::es) [] pos) (bt g fs):=by
 obtain⟨f,fd,ps,F,hm,hk,hb⟩:=C
 refine⟨(qc F (hr.mono hkj) hg hm hk hb .nil sJ ha.1 hdb he hpl).imp fun σ H Q ⟨ρ,S,δ,v,S',E,hf,q⟩=>?_⟩
 obtain⟨vs,S1,h1,h2⟩:=R3.ak hf
 refine⟨ρ,S,δ,vs,S1,E,h1,fun us ρ1 H1 p1 w1 r1=>?_⟩
 show yB X.K cl n g (us++[]) H1 Q E0
 rw[List.append_nil]
 exact⟨by rw[←r1.length];exact hn δ S vs S1 h1,ρ1,S1,vs,v,S',w1,r1,h2,fun z ρ2 H2 p2 w2 r2=>q z ρ2 H2 (p1.trans p2) w2 r2⟩
end
noncomputable def bx(N:List Str)(vs:List V3):DE:=vs.map some++List.replicate (N.length - vs.length) none
theorem x4{K:PySem.W.Frag}{cl:Nat→Addr}{ρ:P3}{H:Hp}{S:aJ}{N:List Str}{ds:List V3}{vs:List V}(w:SW K cl ρ H S)(r:aA K ρ H ds vs):d_ K cl ρ H S (L2.start N vs) (bx N ds) where
 len:=by unfold L2.start bx;simp [r.length]
 sw:=w
 val:=fun i d e=>by
  unfold bx at e
  unfold L2.start
  by_cases hi:i < ds.length
  ·rw[List.getElem?_append_left (by simpa using hi),List.getElem?_map] at e
   cases q:ds[i]? with
   | none=>rw [q] at e;cases e
   | some d'=>
     rw[q] at e
     cases e
     obtain⟨x,h1,h2⟩:=r.get q
     exact⟨x,by rw[List.getElem?_append_left (by rw[List.length_map,←r.length];exact hi),List.getElem?_map,h1];rfl,h2⟩
  ·rw[List.getElem?_append_right (by simpa using hi),List.getElem?_replicate] at e
   split at e <;> cases e
noncomputable def j6(N:List Str)(F:FZ):List V3→aJ→R3 V3:=fun vs S=>(F (bx N vs) S).bind fun o S'=>match o with | .rt v=> .ok v S' | .nx _=> .ok (.d .cD) S'
noncomputable def lA(N:List Str)(F:FZ):List V3→aJ→R3 V3:=fun vs S=>(j6 N F vs S).bind fun v S'=>match res S' v with
 | some d=>R3.bF ((S'.take S.length).all (mE S.length) && d8 S.length v) (.ok (.d d) (S'.take S.length))
 | none=> .no
theorem Az{P:Program}{w:World}{K:PySem.W.Frag}{mg:Str→Option Value}{base:Heap}{cl:Nat→Addr}{x qual:Str}{st:Stmt}{f:Addr}{fd:FuncData}{N ps:List Str}{k:Nat}{F:FZ}(Fn:vd K x qual st f fd)(S:aX N ps (ag st))
 (hbody:∀(cdv:Value) (A:Around) (outer:List Env) (s:Shared) (H:Hp) (E:XK),dG k (A.deeper (envOfC qual (ag st) s.heap.objs.size f cdv))→
   xi (nu pP P w K mg base N qual (ag st) f cdv A outer s H E).A2 cl (aq st) F):gC P w K mg base pP (k+1) f fd ps (yB K cl ps.length (j6 N F)):=by
 refine Fn.ok S (fun vs H Q E h=>h.1) (fun cdv A outer s H vs Q E hr h=>⟨_,(hbody cdv A outer s H E hr).1,?_⟩)
 obtain⟨_,ρ,S,ds,v,S',w,r,hg,q⟩:=h
 obtain⟨o,S1,h1,h2⟩:=R3.ak hg
 refine⟨ρ,S,bx N ds,o,S1,x4 w r,h1,?_⟩
 cases o with
 | nx δ'=>
   cases h2
   exact fun σ' ρ' H' p' E'=>q _ ρ' H' p' E'.sw (by unfold aW Rep;rfl)
 | rt d'=>
   cases h2
   exact fun u ρ' H' p' w' r'=>q u ρ' H' p' w' r'
theorem ug{K:PySem.W.Frag}{cl:Nat→Addr}{N:List Str}{F:FZ}{n:Nat}{vs:List V}{H:Hp}{Q:VK}{E:XK}(h:yB K cl n (lA N F) vs H Q E):yB K cl n (j6 N F) vs H Q E:=by
 obtain⟨hl,ρ,S,xs,v,S',w,r,hg,q⟩:=h
 obtain⟨v1,S1,h1,h2⟩:=R3.ak hg
 refine⟨hl,ρ,S,xs,v1,S1,w,r,h1,fun u ρ1 H1 p1 w1 r1=>?_⟩
 have pc:Pre ρ H (ρ1.cut S.length) H1:=SW.Dn (K:=K) (cl:=cl) (by rw[w.len];exact Nat.le_refl _) p1
 split at h2
 ·rename_i d e
  obtain⟨ok,h3⟩:=R3.ba h2
  obtain⟨ok,hk⟩:=Bool.and_eq_true_iff.mp ok
  cases h3
  refine q u _ H1 pc (w1.cut ok) ?_
  unfold aW
  refine r1.resB w1 (gq _) (fun k a hk a1 ha=>?_) hk e
  rcases P3.dh.mp ha with⟨z,_⟩ | z
  ·obtain⟨j,hj⟩:=List.getElem?_of_mem z
   have hj:(ρ1.r.take S.length)[j]? =some a:=hj
   rw[List.getElem?_take] at hj
   split at hj
   ·rename_i hjl
    have:=w1.nd j k a hj a1
    omega
   ·cases hj
  ·exact(w1.zb a z).2 (List.mem_of_getElem? a1)
 ·cases h2
end L3
end
section
set_option maxRecDepth 100000
set_option maxHeartbeats 4000000
namespace L3
open PySem PySem.Spec PyProof.Rows L2
theorem aC.setAt{K:PySem.W.Frag}{ρ:P3}{H:Hp}:∀{ds:List D} {xs:List V} {m:Nat} {d:D} {v:V},aC K ρ.b H ds xs→Rep K ρ.b H d v→aC K ρ.b H (ds.set m d) (xs.set m v)
 | [],_,_,_,_,h,_=>by unfold aC at h;subst h;exact aC.nil
 | e ::ds,xs,0,d,v,h,r=>by
   obtain⟨x,r',rfl,h1,h2⟩:=h.bU
   exact aC.cons r h2
 | e ::ds,xs,m+1,d,v,h,r=>by
   obtain⟨x,r',rfl,h1,h2⟩:=h.bU
   exact aC.cons h1 (aC.setAt h2 r)
section
variable {X:Cx} {cl:Nat→Addr}
theorem qK{o i e:Expr}{fo fi fe:FX}{spos pos:Pos}(he:PX X cl e fe)
 (hg:PG X (.Subscript o i spos) (Ff (tX X.K cl fo) (tX X.K cl fi) BO))
 (hs:swapsWithSole [.Subscript o i spos] e pos.line X.env=pure false:=by rfl) (hw:swappedStores [.Subscript o i spos] e X.env=pure none:=by rfl)
 (h1:(assignEach [.Subscript o i spos] X.env).map (·.2)=[assign (.Subscript o i spos) X.env]:=by rfl):PZ X cl (.Assign [.Subscript o i spos] e pos) (tu fo fi fe):=⟨(xF he.1 hg hs hw h1).imp fun D σ H ⟨ρ,S,δ,ou,S',E,hf,q⟩=>by
 obtain⟨v,S1,h1,h2⟩:=R3.ak hf
 obtain⟨vo,S2,h3,h4⟩:=R3.ak h2
 obtain⟨vi,S3,h5,h6⟩:=R3.ak h4
 split at h6
 ·rename_i d k n
  split at h6
  ·rename_i ds hds
   split at h6
   ·rename_i m hm
    cases h6
    refine⟨ρ,S,δ, .d d,S1,E,h1,fun u ρ1 H1 p1 w1 r1=>⟨ρ1,S1,δ, .loc k,S2,E.to p1 w1,h3,fun u2 ρ2 H2 p2 w2 r2=>⟨ρ2,S2,δ, .d (.int n),S3,(E.to p1 w1).to p2 w2,h5,fun u3 ρ3 H3 p3 w3 r3=>?_⟩⟩⟩
    unfold aW at r2
    obtain⟨a,a1,rfl⟩:=r2
    have a3:=p3.ext k a a1
    obtain⟨xs,x1,x2⟩:=w3.ob k a _ a3 (cZ hds)
    unfold aW Rep at r3
    have r1':=r1.pre (p2.trans p3)
    unfold aW at r1'
    obtain⟨w4,p4⟩:=w3.put (o:= .lst (ds.set m d)) (u:= .lst (xs.set m u)) a3 (w3.fz k a a3 (by rw[cZ hds];intro h;cases h)) ⟨xs.set m u,rfl,aC.setAt x2 r1'⟩
    exact⟨a,xs,n,m,rfl,r3,x1,by rw[←x2.length];exact hm,q σ ρ3 _ (((p1.trans p2).trans p3).trans p4) (E.to (((p1.trans p2).trans p3).trans p4) w4)⟩
   ·cases h6
  ·cases h6
 ·cases h6⟩
noncomputable def kX(δ:DE)(i:Nat):Option V3:=match δ[i]? with | some (some v)=>some v | _=>none
noncomputable def fk(own:List Str)(kp:List Nat)(δ:DE):DE:=List.replicate own.length none++kp.map (kX δ)
theorem AA{K:PySem.W.Frag}{ρ ρ':P3}{H H':Hp}{S S':aJ}{σ:L2.St}{δ:DE}{own:List Str}{kp:List Nat}(E:d_ K cl ρ H S σ δ)(p:PW ρ H ρ' H')(w:SW K cl ρ' H' S'):d_ K cl ρ' H' S' (c6 own kp σ) (fk own kp δ) where
 len:=by unfold c6 fk;simp
 sw:=w
 val:=fun i d e=>by
  unfold fk at e
  unfold c6
  by_cases hi:i < own.length
  ·rw[List.getElem?_append_left (by simpa using hi),List.getElem?_replicate] at e
   split at e <;> cases e
  ·rw[List.getElem?_append_right (by simpa using hi),List.length_replicate,List.getElem?_map] at e ⊢
   cases q:kp[i - own.length]? with
   | none=>rw [q] at e;cases e
   | some j=>
     rw[q] at e
     have e:kX δ j=some d:=Option.some.inj e
     unfold kX at e
     split at e
     ·rename_i d' ed
      cases e
      obtain⟨v,h1,h2⟩:=E.val j d ed
      exact⟨v,by simp [h1],h2.pw p⟩
     ·cases e
noncomputable def j3(t:FG)(c:FB)(f:FX)(δ:DE):List V3→aJ→R3 (List V3)
 | [],S=> .ok [] S
 | v ::vs,S=>match t v δ with
   | none=> .no
   | some δ1=>(c δ1 S).bind fun b S1=>if b then(f δ1 S1).bind fun y S2=>(j3 t c f δ vs S2).bind fun ys S3=> .ok (y ::ys) S3 else j3 t c f δ vs S1
noncomputable def f9(it:FA)(t:FG)(c:FB)(f:FX)(own:List Str)(kp:List Nat):FX:=fun δ S=>(it δ S).bind fun vs S1=>R3.bF (decide (vs.length≤sizeLine)) ((j3 t c f (fk own kp δ) vs S1).bind fun ys S2=> .ok (f7 ys) S2)
theorem aA.append{K:PySem.W.Frag}{ρ:P3}{H:Hp}:∀{ds es:List V3} {xs ys:List V},aA K ρ H ds xs→aA K ρ H es ys→aA K ρ H (ds++es) (xs++ys)
 | [],_,_,_,h,t=>by unfold aA at h;subst h;exact t
 | d ::ds,es,xs,ys,h,t=>by
   obtain⟨x,r,rfl,h1,h2⟩:=h.bU
   exact aA.cons h1 (aA.append h2 t)
theorem vh{K:PySem.W.Frag}{it:FA}{t:FG}{c:FB}{f:FX}{own:List Str}{kp:List Nat}{σ:L2.St}{H:Hp}{Q:VK}(h:tX K cl (f9 it t c f own kp) σ H Q) :
 uM (Hl K cl it) (gX K cl t) (Dx K cl c) (tX K cl f) own kp σ H Q:=by
 obtain⟨ρ,S,δ,v,SF,E,hf,q⟩:=h
 obtain⟨es,S1,h1,h2⟩:=R3.ak hf
 obtain⟨hl,h3⟩:=R3.ba h2
 have hl:=of_decide_eq_true hl
 obtain⟨vs,S2,h4,h5⟩:=R3.ak h3
 cases h5
 refine⟨ρ,S,δ,es,S1,E,h1,fun J ρ1 H1 p1 w1 ir Dd hD=>?_⟩
 have nDz:Dd ∉ ρ1.b:=fun hb=>by obtain⟨o,ho⟩:=w1.bs Dd hb;rw [hD] at ho;cases ho
 have nDr:Dd ∉ ρ1.r:=fun hb=>by obtain⟨o,ho⟩:=w1.rs Dd hb;rw [hD] at ho;cases ho
 have toZ:∀{r' f':List Addr} {H':Hp},Pre ρ1 H1 ⟨r',ρ1.z,f'⟩ H'→PW ρ1 H1 ⟨r',Dd ::ρ1.z,f'⟩ H':=fun {r' f' H'} p=>⟨fun b o e nb=>⟨(p.bg b o e nb).1,fun hb=>by
  rcases P3.dh.mp hb with z | z
  ·exact(p.bg b o e nb).2 (P3.dh.mpr (.inl z))
  ·rcases List.mem_cons.mp z with y | y
   ·exact bK e hD y
   ·exact(p.bg b o e nb).2 (P3.dh.mpr (.inr y))⟩,p.ext⟩
 have w0:SW K cl ⟨ρ1.r,Dd ::ρ1.z,ρ1.f⟩ (upd H1 Dd (.lst [])) S1:=by
  have s0:aN H1 (upd H1 Dd (.lst [])):=a0 hD
  have ws:=w1.same s0
  refine⟨ws.len,ws.nd,fun k a o hk ho=>?_,fun b hb=>?_,ws.fz,ws.ff,ws.fi⟩
  ·have r:=w1.ob k a o hk ho
   obtain⟨u,hu⟩:=r.some
   rw[s0 a u hu,←hu]
   exact r.pw (toZ (Pre.same s0))
  ·rcases List.mem_cons.mp hb with y | y
   ·subst y;exact⟨⟨_,bc⟩,nDr⟩
   ·exact ws.zb b y
 refine⟨fun i m ys H'=>m=es.length - i∧i≤es.length∧ys.length≤i∧H' Dd=some (.lst ys)∧∃r' f' S' done rest,Pre ρ1 H1 ⟨r',ρ1.z,f'⟩ H'∧SW K cl ⟨r',Dd ::ρ1.z,f'⟩ H' S'∧vs=done++rest∧aA K ⟨r',Dd ::ρ1.z,f'⟩ H' done ys∧j3 t c f (fk own kp δ) (es.drop i) S'= .ok rest SF,
  ⟨es.length,rfl,Nat.zero_le _,Nat.le_refl _,bc,ρ1.r,ρ1.f,S1,[],vs,Pre.same (a0 hD),w0,rfl,aA.nil,by simpa using h4⟩,?_⟩
 rintro i m ys H' ⟨rfl,hi,hy,hDl,r',f',S',done,rest,pv,w',rfl,rd,hc⟩
 obtain⟨go,stop⟩:=ir ⟨r',Dd ::ρ1.z,f'⟩ H' (toZ pv) w'.bs
 have unZ:∀{ρ4:P3} {H4:Hp},Pre ⟨r',Dd ::ρ1.z,f'⟩ H' ρ4 H4→Pre ρ1 H1 ⟨ρ4.r,ρ1.z,ρ4.f⟩ H4:=fun {ρ4 H4} p4=>⟨fun b o e nb=>by
  obtain⟨e1,n1⟩:=(toZ pv).bg b o e nb
  obtain⟨e2',n2⟩:=p4.bg b o e1 n1
  refine⟨e2',fun hb=>n2 ?_⟩
  rcases P3.dh.mp hb with z | z
  ·exact P3.dh.mpr (.inl z)
  ·exact P3.dh.mpr (.inr (by rw[p4.zz];exact List.mem_cons_of_mem _ z)),rfl,fun b o hb h=>p4.zs b o (List.mem_cons_of_mem _ hb) (pv.zs b o hb h),fun k a h=>p4.ext k a (pv.ext k a h)⟩
 by_cases hlt:i < es.length
 ·have hd:es[i]? =some es[i]:=List.getElem?_eq_getElem hlt
  have hdrop:es.drop i=es[i] ::es.drop (i+1):=List.drop_eq_getElem_cons hlt
  rw[hdrop] at hc
  unfold j3 at hc
  split at hc
  ·cases hc
  ·rename_i δ1 h6
   obtain⟨b,T1,h7,h8⟩:=R3.ak hc
   obtain⟨g1,g2⟩:=go i _ hd
   refine .inr ⟨g1,fun x H2 y=>?_⟩
   obtain⟨sy,ry⟩:=g2 x H2 y
   have Ec:d_ K cl ⟨r',Dd ::ρ1.z,f'⟩ H2 S' (c6 own kp σ) (fk own kp δ):=AA E (p1.pw.trans ((toZ pv).trans (Pre.same sy).pw)) (w'.same sy)
   refine⟨⟨r',Dd ::ρ1.z,f'⟩,S',fk own kp δ,es[i],δ1,Ec,ry,h6,fun σ3 H3 s3 E3=>⟨⟨r',Dd ::ρ1.z,f'⟩,S',δ1,b,T1,E3,h7,fun ρ4 H4 p4 w4=>?_⟩⟩
   have pv4:Pre ⟨r',Dd ::ρ1.z,f'⟩ H' ρ4 H4:=(Pre.same (sy.trans s3)).trans p4
   cases b with
   | true=>
     rw[if_pos rfl] at h8
     refine yh ?_
     obtain⟨yv,T2,h9,h10⟩:=R3.ak h8
     obtain⟨rs,T3,h11,h12⟩:=R3.ak h10
     cases h12
     refine⟨ρ4,T1,δ1,yv,T2,E3.to p4 w4,h9,fun v5 ρ5 H5 p5 w5 r5=>?_⟩
     have pv5:Pre ⟨r',Dd ::ρ1.z,f'⟩ H' ρ5 H5:=pv4.trans p5
     have hD5:H5 Dd=some (.lst ys):=pv5.zs Dd _ List.mem_cons_self hDl
     have u5:=unZ pv5
     obtain⟨r5',z5,f5⟩:=ρ5
     have ez:z5=Dd ::ρ1.z:=pv5.zz
     subst ez
     have nr:Dd ∉ r5':=(w5.zb Dd List.mem_cons_self).2
     have pw:PW ⟨r5',Dd ::ρ1.z,f5⟩ H5 ⟨r5',Dd ::ρ1.z,f5⟩ (upd H5 Dd (.lst (ys++[v5]))):=⟨fun b o e nb=>⟨by rw[bf (fun(z:b=Dd)=>nb (by rw[z];exact P3.dh.mpr (.inr List.mem_cons_self)))];exact e,nb⟩,fun _ _ h=>h⟩
     refine⟨hD5,by omega,es.length - (i+1),by omega,rfl,hlt,by rw[List.length_append,List.length_singleton];omega,bc,r5',f5,T2,done++[yv],rs,?_,?_,by simp,aA.append ((rd.pre pv5).pw pw) (aA.cons (r5.pw pw) aA.nil),h11⟩
     ·refine⟨fun b o e nb=>⟨by rw[bf (bK e hD)];exact(u5.bg b o e nb).1,(u5.bg b o e nb).2⟩,rfl,fun b o hb h=>?_,u5.ext⟩
      rw[bf (bK h hD)]
      exact u5.zs b o hb h
     ·refine⟨w5.len,w5.nd,fun k a o hk ho=>?_,fun b hb=>?_,w5.fz,fun b hb=>?_,w5.fi⟩
      ·have ne:a≠Dd:=fun z=>nr (by rw[←z];exact List.mem_of_getElem? hk)
       rw[bf ne]
       exact(w5.ob k a o hk ho).pw pw
      ·obtain⟨⟨o,ho⟩,n⟩:=w5.zb b hb
       refine⟨?_,n⟩
       by_cases z:b=Dd
       ·subst z;exact⟨_,bc⟩
       ·rw[bf z];exact⟨o,ho⟩
      ·obtain⟨o,ho⟩:=w5.ff b hb
       by_cases z:b=Dd
       ·subst z;exact⟨_,bc⟩
       ·rw[bf z];exact⟨o,ho⟩
   | false=>
     rw[if_neg (by decide)] at h8
     refine xV ?_
     have hD4:H4 Dd=some (.lst ys):=pv4.zs Dd _ List.mem_cons_self hDl
     have u4:=unZ pv4
     obtain⟨r4',z4,f4⟩:=ρ4
     have ez:z4=Dd ::ρ1.z:=pv4.zz
     subst ez
     exact⟨es.length - (i+1),by omega,rfl,hlt,by omega,hD4,r4',f4,T1,done,rest,u4,w4,rfl,rd.pre pv4,h8⟩
 ·have e:i=es.length:=by omega
  subst e
  rw[List.drop_length] at hc
  cases hc
  rw[List.append_nil] at q
  refine .inl ⟨stop,?_⟩
  have back:PW ⟨r',Dd ::ρ1.z,f'⟩ H' ⟨r',ρ1.z,f'⟩ H':=⟨fun b o e nb=>⟨e,fun hb=>nb (by
   rcases P3.dh.mp hb with z | z
   ·exact P3.dh.mpr (.inl z)
   ·exact P3.dh.mpr (.inr (List.mem_cons_of_mem _ z)))⟩,fun _ _ h=>h⟩
  have wB:SW K cl ⟨r',ρ1.z,f'⟩ H' _:=⟨w'.len,w'.nd,fun k a o hk ho=>(w'.ob k a o hk ho).pw back,fun b hb=>w'.zb b (List.mem_cons_of_mem _ hb),w'.fz,w'.ff,w'.fi⟩
  refine q _ ⟨r',ρ1.z,f'⟩ H' (p1.trans pv) wB (ph (.inl ⟨fun hb=>?_, .inl hDl⟩) (rd.pw back))
  rcases P3.dh.mp hb with z | z
  ·exact(w'.zb Dd List.mem_cons_self).2 z.1
  ·exact nDz (P3.dh.mpr (.inr z))
end
end L3
end
section
set_option maxRecDepth 100000
set_option maxHeartbeats 4000000
namespace L3
open PySem PySem.Spec PyProof.Rows L2
section
variable {X:Cx} {cl:Nat→Addr}
theorem jZ{scope:Scope}{own:List Str}{kp:List Nat}{kn:List Str}{tg iter elt:Expr}{ifs:List Expr}{it:FA}{t:FG}{c:FB}{f:FX}{pos:Pos}(hc:X.calm=true)(C:b_ X scope own kp kn)(hi:DI X cl tg iter it)
 (hg:∀fp s H,DF (bu X scope (own++kn) fp s H) cl tg t) (hif:∀fp s H,mO (bu X scope (own++kn) fp s H) ifs (Dx X.K cl c)) (he:∀fp s H,PX (bu X scope (own++kn) fp s H) cl elt f)
 (hs:∀x,foldedSetIterable iter X.env x=pure x:=by intro _;rfl):PX X cl (.ListComp elt [⟨tg,iter,ifs,0⟩] scope pos) (f9 it t c f own kp):=
 ⟨(uH hc C hi.1 (fun fp s H=>(hg fp s H).1) hif (fun fp s H=>(he fp s H).1) hs).imp fun σ H Q h=>vh h⟩
noncomputable def o4:FB:=fun _ S=> .ok true S
theorem eF:mO X [] (Dx X.K cl o4):=fun pins s σ H Q I ⟨ρ,S,δ,b,S',E,hf,q⟩=>q9 pins s σ H Q I (by cases hf;exact q ρ H (Pre.refl ρ H) E.sw)
theorem sP{e:Expr}{c:FB}(h:yk X cl e c):mO X [e] (Dx X.K cl c):=ym h.1
theorem CT{K:PySem.W.Frag}{i:Nat}{f:FX}{D:Ends}{σ:L2.St}{H:Hp}(h:sX K cl (cb i f) D σ H):yr (tX K cl f) (p8 i) D σ H:=by
 obtain⟨ρ,S,δ,o,S',E,hf,q⟩:=h
 obtain⟨v,S1,h1,h2⟩:=R3.ak hf
 obtain⟨hi,h3⟩:=R3.ba h2
 cases h3
 refine⟨ρ,S,δ,v,_,E,h1,fun u ρ1 H1 p1 w1 r1=>?_⟩
 exact q _ ρ1 H1 p1 ((E.to p1 w1).set (by rw[←E.len];exact of_decide_eq_true hi) r1)
theorem iH{i:Nat}{x:Str}{pos' spos:Pos}{scope:Scope}{own:List Str}{kp:List Nat}{kn:List Str}{tg iter elt:Expr}{ifs:List Expr}{it:FA}{t:FG}{c:FB}{f:FX}{pos:Pos}(hc:X.calm=true)
 (hN:X.N.Nodup) (hx:X.N[i]? =some x) (hxl:X.env.scope.names.lookup x=some .local) (C:b_ X scope own kp kn) (hi:DI X cl tg iter it)
 (hg:∀fp s H,DF (bu X scope (own++kn) fp s H) cl tg t) (hif:∀fp s H,mO (bu X scope (own++kn) fp s H) ifs (Dx X.K cl c)) (he:∀fp s H,PX (bu X scope (own++kn) fp s H) cl elt f)
 (hsw:swapsWith (.ListComp elt [⟨tg,iter,ifs,0⟩] scope pos) (some (.Name x pos')) spos.line X.env=pure true:=by rfl)
 (hs:∀x,foldedSetIterable iter X.env x=pure x:=by intro _;rfl):PZ X cl (.Assign [.Name x pos'] (.ListComp elt [⟨tg,iter,ifs,0⟩] scope pos) spos) (cb i (f9 it t c f own kp)):=
 ⟨(tL hc hN hx hxl C hi.1 (fun fp s H=>(hg fp s H).1) hif (fun fp s H=>(he fp s H).1) hsw hs).imp fun D σ H h=>vh (CT h)⟩
noncomputable def Jz(g:FA):FX:=fun δ S=>(g δ S).bind fun vs S1=>match i_ vs with
 | some ds=>R3.bF (decide (ds.length≤sizeLine)) (.ok (.loc S1.length) (S1++[.lst ds]))
 | none=> .no
end
end L3
end
section
set_option maxRecDepth 100000
set_option maxHeartbeats 4000000
namespace L3
open PySem PySem.Spec PyProof.Rows L2
section
variable {X:Cx} {cl:Nat→Addr}
noncomputable def lB(g:List D→R D)(fs:FA):FX:=fun δ S=>(fs δ S).bind fun vs S1=>match i_ vs with
 | some ds=>(R3.of (g ds) S1).bind fun d S=> .ok (.d d) S
 | none=> .no
theorem yK{K:PySem.W.Frag}{g:List D→R D}{fs:FA}{σ:L2.St}{H:Hp}{Q:VK}(h:tX K cl (lB g fs) σ H Q) :
 Ho K cl fs σ H fun vs H1=>∃B ds d,(∀a∈B,∃o,H1 a=some o)∧aC K B H1 ds vs∧g ds= .ok d∧∀z H',aN H1 H'→Rep K B H' d z→Q z H':=by
 obtain⟨ρ,S,δ,v,S',E,hf,q⟩:=h
 obtain⟨vs,S1,h1,h2⟩:=R3.ak hf
 split at h2
 ·rename_i ds e
  obtain⟨d,S2,h3,h4⟩:=R3.ak h2
  obtain⟨h5,e5⟩:=R3.of_ok h3
  cases h4
  subst e5
  refine⟨ρ,S,δ,vs,_,E,h1,fun us ρ1 H1 p1 w1 r1=>?_⟩
  rw[gn e] at r1
  exact⟨ρ1.b,ds,d,w1.bs,r1.to,h5,fun z H' s r=>q z ρ1 H' (p1.trans (Pre.same s)) (w1.same s) (by unfold aW;exact r)⟩
 ·cases h2
theorem zM{g:List D→R D}{x:Str}{id:String}{p pos:Pos}{e:Expr}{es:List Expr}{fs:FA}(hc:cL X (.builtin id) g)(hg:Gl X x)(hm:X.mg x=none)(hv:bootBuiltins x=some (.builtin id))(ha:zZ X cl (e ::es) fs)(hn:x≠"__name__":=by decide)(hdb:(x==("__debug__":Str))=false:=by decide)
 (he:starEach (e ::es) X.env=(false,eval e X.env) ::starEach es X.env:=by rfl) (hpl:(backTo pos (starEach es X.env)).any (·.1)=false:=by rfl):PX X cl (.Call (.Name x p) (e ::es) [] pos) (lB g fs):=
 ⟨(nO hc.r hg hm hv ha.1 hn hdb he hpl).imp fun σ H Q h=>yK h⟩
noncomputable def JK(c:FB)(f g:FX):FX:=fun δ S=>(c δ S).bind fun b S=>if b then f δ S else g δ S
theorem aB:∀(δ:DE) (S:aJ) (ds:List V3) (S':aJ),bG δ S= .ok ds S'→ds.length=0:=fun δ S ds S' h=>by cases h;rfl
theorem ae{f:FX}{g:FA}{n:Nat}(h:∀(δ:DE) (S:aJ) (ds:List V3) (S':aJ),g δ S= .ok ds S'→ds.length=n):∀(δ:DE) (S:aJ) (ds:List V3) (S':aJ),ax f g δ S= .ok ds S'→ds.length=n+1:=fun δ S ds S' e=>by
 obtain⟨v,S1,h1,h2⟩:=R3.ak e
 obtain⟨vs,S2,h3,h4⟩:=R3.ak h2
 cases h4
 rw[List.length_cons,h δ S1 vs _ h3]
end
end L3
end
section
set_option maxRecDepth 100000
set_option maxHeartbeats 4000000
namespace L3
open PySem PySem.Spec PyProof.Rows L2
theorem pT{K:PySem.W.Frag}{ρ:P3}{H:Hp}{ds:List V3}{xs:List V}{i:Int}{d:V3}(r:aA K ρ H ds xs)(h:l8 ds i=some d):∃x,l8 xs i=some x∧aW K ρ H d x:=by
 unfold l8 at h ⊢
 rw[←r.length]
 cases e:m8 ds.length i with
 | none=>rw [e] at h;cases h
 | some j=>
   rw[e] at h
   exact r.get h
section
variable {X:Cx} {cl:Nat→Addr}
noncomputable def xD(fa fb:FX):FX:=fun δ S=>(fa δ S).bind fun a S1=>(fb δ S1).bind fun b S2=>match a,b with
 | .d x, .d y=>(R3.of (cw x y) S2).bind fun d S=> .ok (.d d) S
 | .lst vs, .d (.int i)=>(match l8 vs i with | some v=> .ok v S2 | none=> .no)
 | .tup vs, .d (.int i)=>(match l8 vs i with | some v=> .ok v S2 | none=> .no)
 | _,_=> .no
theorem nh{a b:Expr}{fa fb:FX}{pos:Pos}(ha:PX X cl a fa)(hb:PX X cl b fb)(hs:mP b):PX X cl (.Subscript a b pos) (xD fa fb):=by
 refine⟨(BL (r:=G9 X.K) yL ha.1 hb.1 hs).imp fun σ H Q ⟨ρ,S,δ,v,S',E,hf,q⟩=>?_⟩
 obtain⟨v1,S1,h1,h2⟩:=R3.ak hf
 obtain⟨v2,S2,h3,h4⟩:=R3.ak h2
 refine⟨ρ,S,δ,v1,S1,E,h1,fun u1 ρ1 H1 p1 w1 r1=>⟨ρ1,S1,δ,v2,S2,E.to p1 w1,h3,fun u2 ρ2 H2 p2 w2 r2=>?_⟩⟩
 have r1':=r1.pre p2
 have p12:=p1.trans p2
 split at h4
 ·rename_i x y
  obtain⟨d,S3,h5,h6⟩:=R3.ak h4
  obtain⟨h7,e7⟩:=R3.of_ok h5
  cases h6
  subst e7
  unfold aW at r1' r2
  unfold cw at h7
  split at h7
  ·split at h7
   ·rename_i e
    cases h7
    obtain⟨p,xs,rfl,l,rs⟩:=Rep.lst.mp r1'
    obtain⟨y,e1,e2⟩:=kU rs e
    exact .inl ⟨p,xs,_,y,rfl,Rep.int.mp r2,l.sq,e1,q y ρ2 H2 p12 w2 (by unfold aW;exact e2)⟩
   ·cases h7
  ·split at h7
   ·rename_i e
    cases h7
    obtain⟨p,xs,rfl,l,rs⟩:=Rep.tup.mp r1'
    obtain⟨y,e1,e2⟩:=kU rs e
    exact .inr (.inl ⟨p,xs,_,y,rfl,Rep.int.mp r2,l.sq,e1,q y ρ2 H2 p12 w2 (by unfold aW;exact e2)⟩)
   ·cases h7
  ·obtain⟨hl,h8⟩:=R.ba h7
   split at h8
   ·rename_i e
    cases h8
    exact .inr (.inr ⟨_,_,_,Rep.str.mp r1',Rep.int.mp r2,of_decide_eq_true hl,e,q _ ρ2 H2 p12 w2 (by unfold aW;exact Rep.str.mpr rfl)⟩)
   ·cases h8
  ·cases h7
 ·split at h4
  ·rename_i e
   cases h4
   unfold aW at r1' r2
   obtain⟨p,xs,rfl,l,rs⟩:=r1'
   obtain⟨y,e1,e2⟩:=pT rs e
   exact .inl ⟨p,xs,_,y,rfl,Rep.int.mp r2,l.sq,e1,q y ρ2 H2 p12 w2 e2⟩
  ·cases h4
 ·split at h4
  ·rename_i e
   cases h4
   unfold aW at r1' r2
   obtain⟨p,xs,rfl,l,rs⟩:=r1'
   obtain⟨y,e1,e2⟩:=pT rs e
   exact .inr (.inl ⟨p,xs,_,y,rfl,Rep.int.mp r2,l.sq,e1,q y ρ2 H2 p12 w2 e2⟩)
  ·cases h4
 ·cases h4
end
end L3
end
section
set_option maxRecDepth 100000
set_option maxHeartbeats 4000000
namespace L3
open PySem PySem.Spec PyProof.Rows L2
section
variable {X:Cx} {cl:Nat→Addr}
structure zY (X:Cx) (cl:Nat→Addr) (e:Expr) (f:FB):Prop where
 go:L2.PW X e (Dx X.K cl f)
theorem zY.pb{e:Expr}{f:FB}(h:zY X cl e f):yk X cl e f:=⟨L2.PW.pt h.1⟩
noncomputable def Dw(f g:FB):FB:=fun δ S=>(f δ S).bind fun b S=>if b then g δ S else .ok false S
noncomputable def GN(f g:FB):FB:=fun δ S=>(f δ S).bind fun b S=>if b then .ok true S else g δ S
noncomputable def Ih(f:FB):FB:=fun δ S=>(f δ S).bind fun b S=> .ok (!b) S
theorem xE{a:Expr}{f:FB}{pos:Pos}(h:yk X cl a f):zY X cl (.BoolOp .And [a] pos) f:=⟨uW h.1⟩
theorem Be{a:Expr}{f:FB}{pos:Pos}(h:yk X cl a f):zY X cl (.BoolOp .Or [a] pos) f:=⟨zt h.1⟩
theorem Bo{a b:Expr}{rest:List Expr}{f g:FB}{pos:Pos}(ha:yk X cl a f)(hb:zY X cl (.BoolOp .And (b ::rest) pos) g):zY X cl (.BoolOp .And (a ::b ::rest) pos) (Dw f g):=⟨by
 intro wh pins s σ H Q I ⟨ρ,S,δ,k,S',E,hf,q⟩
 refine y3 ha.1 hb.1 wh pins s σ H Q I ?_
 obtain⟨c,S1,h1,h2⟩:=R3.ak hf
 refine⟨ρ,S,δ,c,S1,E,h1,fun ρ1 H1 p1 w1=>?_⟩
 cases c with
 | true=>rw [if_pos rfl] at h2 ⊢;exact⟨ρ1,S1,δ,k,S',E.to p1 w1,h2,fun ρ2 H' p2 w2=>q ρ2 H' (p1.trans p2) w2⟩
 | false=>rw [if_neg (by decide)] at h2 ⊢;cases h2;exact q ρ1 H1 p1 w1⟩
theorem Dh{a b:Expr}{rest:List Expr}{f g:FB}{pos:Pos}(ha:yk X cl a f)(hb:zY X cl (.BoolOp .Or (b ::rest) pos) g):zY X cl (.BoolOp .Or (a ::b ::rest) pos) (GN f g):=⟨by
 intro wh pins s σ H Q I ⟨ρ,S,δ,k,S',E,hf,q⟩
 refine BP ha.1 hb.1 wh pins s σ H Q I ?_
 obtain⟨c,S1,h1,h2⟩:=R3.ak hf
 refine⟨ρ,S,δ,c,S1,E,h1,fun ρ1 H1 p1 w1=>?_⟩
 cases c with
 | true=>rw [if_pos rfl] at h2 ⊢;cases h2;exact q ρ1 H1 p1 w1
 | false=>rw [if_neg (by decide)] at h2 ⊢;exact⟨ρ1,S1,δ,k,S',E.to p1 w1,h2,fun ρ2 H' p2 w2=>q ρ2 H' (p1.trans p2) w2⟩⟩
noncomputable def I0(f:FX):FB:=fun δ S=>(f δ S).bind fun v S=>match v with | .d d=>R3.of (oa d) S | _=> .no
noncomputable abbrev Fe:=DE→aJ→R3 (Option Int)
noncomputable def Ic(K:PySem.W.Frag)(cl:Nat→Addr)(f:Fe):TO:=fun σ H Q=>∃ρ S δ o S',d_ K cl ρ H S σ δ∧f δ S= .ok o S'∧∀ρ' H',Pre ρ H ρ' H'→SW K cl ρ' H' S'→Q o H'
structure JG (X:Cx) (cl:Nat→Addr) (e:Option Expr) (f:Fe):Prop where
 go:PO X e (Ic X.K cl f)
noncomputable def GP:Fe:=fun _ S=> .ok none S
noncomputable def G2(f:FX):Fe:=fun δ S=>(f δ S).bind fun v S=>match v with | .d (.int i)=> .ok (some i) S | _=> .no
noncomputable def Ju(f:FX)(fl fh:Fe):FX:=fun δ S=>(f δ S).bind fun v S1=>(fl δ S1).bind fun lo S2=>(fh δ S2).bind fun hi S3=>match v with
 | .d d=>(R3.of (Ef d lo hi) S3).bind fun r S=> .ok (.d r) S
 | _=> .no
end
end L3
end
section
set_option maxRecDepth 100000
set_option maxHeartbeats 4000000
namespace L2
open PySem PySem.Spec PyProof.Rows
section
variable {X:Cx}
noncomputable def kF(t T:String):Bool:=t==T || (t=="bool" && T=="int")
theorem lT{K:PySem.W.Frag}(t T:String)(ht:t∈["NoneType","bool","int","str","list","tuple"])(hT:T∈["bool","int","str","list","tuple"]):PySem.W.kitOne K (.type t) (.type T)=some (kF t T):=by
 simp only[List.mem_cons,List.not_mem_nil,or_false] at ht hT
 rcases ht with rfl | rfl | rfl | rfl | rfl | rfl <;> rcases hT with rfl | rfl | rfl | rfl | rfl <;> rfl
noncomputable def oO(T:String)(f:FD):FD:=fun δ=>(f δ).bind fun d=>match d with | .dct _ _=> .no | _=> .ok (.bl (kF (tyName d) T))
theorem Bc{T:Str}{Ts:String}{p p2 pos:Pos}{e:Expr}{f:FD}(he:QD X e f)(hT:Ts∈["bool","int","str","list","tuple"])(hg:Gl X "isinstance")(hm:X.mg "isinstance"=none)(hgT:Gl X T)(hmT:X.mg T=none)(hvT:bootBuiltins T=some (.type Ts))(hnT:T≠"__name__":=by decide)(hdT:(T==("__debug__":Str))=false:=by decide)
 (hs:starEach [e, .Name T p2] X.env=(false,eval e X.env) ::starEach [.Name T p2] X.env:=by rfl) (hpl:(backTo pos (starEach [.Name T p2] X.env)).any (·.1)=false:=by rfl):QD X (.Call (.Name "isinstance" p) [e, .Name T p2] [] pos) (oO Ts f):=by
 have hc:jq X (.builtin "isinstance") (fun xs H Q=>∃B d x,Rep X.K B H d x∧(∀a b,d≠ .dct a b)∧xs=[x, .ty Ts]∧Q (.bl (kF (tyName d) Ts)) H):=by
  intro pins s σ H xs us Q I r h
  obtain⟨B,d,x,rd,ha,rfl,q⟩:=h
  obtain⟨u,w',rfl,ru,rw'⟩:=vals2 r
  cases rw'
  have fin:∀tk,EP X pins σ Q (.bool (kF (tyName d) Ts)) {s with toks:=tk}:=fun tk=>⟨.bl _,H,I.tok _,rfl,q⟩
  cases d with
  | cD=>exact jX I ru (by rw[Rep.cD.mp rd];exact .cD) (lT "NoneType" Ts (by decide) hT) fin
  | bl b=>exact jX I ru (by rw[Rep.bl.mp rd];exact .bl b) (lT "bool" Ts (by decide) hT) fin
  | int i=>exact jX I ru (by rw[Rep.int.mp rd];exact .int i) (lT "int" Ts (by decide) hT) fin
  | str z=>exact jX I ru (by rw[Rep.str.mp rd];exact .str z) (lT "str" Ts (by decide) hT) fin
  | lst es=>
    obtain⟨a,ys,rfl,l,_⟩:=Rep.lst.mp rd
    cases(show u=Value.ref a from ru)
    obtain⟨its2,n2,r2,h1,z2⟩:=I.BS l
    exact PySem.W.kia_one PySem.W.kitx_list I.lJ ⟨_,h1,rfl⟩ (lT "list" Ts (by decide) hT) (fun z=>nomatch z) fin
  | tup es=>
    obtain⟨a,ys,rfl,l,_⟩:=Rep.tup.mp rd
    cases(show u=Value.ref a from ru)
    obtain⟨its,rv,p,hz⟩:=I.tuple l.sq
    obtain⟨o,h1,h2,_⟩:=p
    exact PySem.W.kia_one PySem.W.kitx_tuple I.lJ ⟨o,h1,h2⟩ (lT "tuple" Ts (by decide) hT) (fun z=>nomatch z) fin
  | dct a b=>exact absurd rfl (ha a b)
 refine⟨(nO hc hg hm boot_isinstance (eU he.1 (eU (Ah (v:= .ty Ts) hgT hmT hvT rfl hnT hdT) g9) hs) (by decide) (by decide) hs hpl).imp fun σ H Q ⟨Z,B,δ,d,E,hf,q⟩=>?_⟩
 obtain⟨d1,h1,h2⟩:=R.ak hf
 have key:(∀a b,d1≠ .dct a b)∧d= .bl (kF (tyName d1) Ts):=by
  cases d1 with
  | dct a b=>cases h2
  | _=>cases h2;exact⟨fun _ _ z=>(by cases z),rfl⟩
 obtain⟨k1,rfl⟩:=key
 exact⟨Z,B,δ,d1,E,h1,fun v H1 s1 r1=>⟨B,d1,v,r1,k1,rfl,q _ H1 s1 (Rep.bl.mpr rfl)⟩⟩
noncomputable def nList(f:FD):aw→R (List D):=fun δ=>(f δ).bind fun d=>match d with | .lst ds=> .ok ds | .tup ds=> .ok ds | _=> .no
end
end L2
namespace L3
open PySem PySem.Spec PyProof.Rows L2
theorem bM{P:Program}{w:World}{K:PySem.W.Frag}{mg:Str→Option Value}{base:Heap}{cl:Nat→Addr}{x qual:Str}{st:Stmt}{f:Addr}{fd:FuncData}{N ps:List Str}{k:Nat}{F:FZ}{b:List Stmt}{sc:Scope}(hb:aq st=b)(hs:ag st=sc)(Fn:vd K x qual st f fd)(S:aX N ps sc)
 (hbody:∀(cdv:Value) (A:Around) (outer:List Env) (s:Shared) (H:Hp) (E:XK),dG k (A.deeper (envOfC qual sc s.heap.objs.size f cdv))→
   xi (nu pP P w K mg base N qual sc f cdv A outer s H E).A2 cl b F):gC P w K mg base pP (k+1) f fd ps (yB K cl ps.length (j6 N F)):=by
 subst hb hs
 exact Az Fn S hbody
theorem ay.p{P:Program}{w:World}{K:PySem.W.Frag}{mg:Str→Option Value}{base:Heap}{cl:Nat→Addr}{k:Nat}{x:Str}{n:Nat}{N:List Str}{F:FZ}(C:ay P w K mg base cl k x n (j6 N F)):ay P w K mg base cl k x n (lA N F):=
 let⟨f,fd,ps,F,h⟩:=C;⟨f,fd,ps,F.imp fun _ _ _ _ h=>ug h,h⟩
noncomputable def F7(N:List Str)(F:FZ):List D→R D:=fun ds=>match lA N F (ds.map .d) [] with
 | .ok (.d d) []=>R.bF d.atom (.ok d)
 | _=> .no
theorem Cv{K:PySem.W.Frag}{cl:Nat→Addr}{N:List Str}{F:FZ}{n:Nat}{vs:List V}{H:Hp}{Q:VK}{E:XK}(h:zS K n (F7 N F) vs H Q E):yB K cl n (j6 N F) vs H Q E:=by
 obtain⟨hl,B,ds,d,hb,r,hg,q⟩:=h
 unfold F7 at hg
 split at hg
 ·rename_i d' e
  obtain⟨ha,h2⟩:=R.ba hg
  cases h2
  have r0:aC K (⟨[],[],[]⟩:P3).b H ds vs:=r.bg fun b o e _=>⟨e,by simp [P3.b]⟩
  refine ug ⟨hl,⟨[],[],[]⟩,[],ds.map .d, .d d,[],⟨rfl,fun i j a hi=>by simp at hi,fun k a o hk=>by simp at hk,fun b hb=>by simp at hb,fun k a hk=>by simp at hk,fun b hb=>by simp at hb,fun k a hk=>by simp at hk⟩,aA.of r0,e,fun u ρ' H' p w' r'=>q u H' (fun b o eb=>?_) ?_⟩
  ·exact(p.bg b o eb (by simp [P3.b])).1
  ·unfold aW at r'
   exact r'.atom ha
 ·cases hg
section
variable {X:Cx} {cl:Nat→Addr}
theorem xH{g:List D→R D}{k j n:Nat}{x:Str}{p pos:Pos}{e:Expr}{es:List Expr}{fs:FA}(C:Callee X.prog X.w X.K X.mg X.base k x n g)(hr:dG j X.A)(hkj:k≤j)(hg:Gl X x)(ha:zZ X cl (e ::es) fs)
 (hn:∀δ S ds S',fs δ S= .ok ds S'→ds.length=n) (hdb:(x==("__debug__":Str))=false:=by decide) (he:starEach (e ::es) X.env=(false,eval e X.env) ::starEach es X.env:=by rfl) (hpl:(backTo pos (starEach es X.env)).any (·.1)=false:=by rfl) :
 PX X cl (.Call (.Name x p) (e ::es) [] pos) (lB g fs):=by
 obtain⟨f,fd,ps,F,hm,hk,hb⟩:=C
 refine⟨(qc F (hr.mono hkj) hg hm hk hb .nil sJ ha.1 hdb he hpl).imp fun σ H Q ⟨ρ,S,δ,v,S',E,hf,q⟩=>?_⟩
 obtain⟨vs,S1,h1,h2⟩:=R3.ak hf
 split at h2
 ·rename_i ds e
  obtain⟨d,S2,h3,h4⟩:=R3.ak h2
  obtain⟨h5,e5⟩:=R3.of_ok h3
  cases h4
  subst e5
  refine⟨ρ,S,δ,vs,_,E,h1,fun us ρ1 H1 p1 w1 r1=>?_⟩
  have hl:=hn δ S vs _ h1
  rw[gn e] at r1
  show zS X.K n g (us++[]) H1 Q E0
  rw[List.append_nil]
  exact⟨by rw[←r1.length,←gn e];exact hl,ρ1.b,ds,d,w1.bs,r1.to,h5,fun z H' s r=>q z ρ1 H' (p1.trans (Pre.same s)) (w1.same s) (by unfold aW;exact r)⟩
 ·cases h2
noncomputable def Ha(f:FX):FA:=fun δ S=>(f δ S).bind fun v S=>match v with | .d (.tup ds)=> .ok (ds.map .d) S | .tup vs=> .ok vs S | _=> .no
end
end L3
end
section
set_option maxRecDepth 100000
set_option maxHeartbeats 4000000
namespace L3
open PySem PySem.Spec PyProof.Rows L2
noncomputable def W3{α:Type}(r:R3 α)(Q:α→aJ→Prop):Prop:=∃a S,r= .ok a S∧Q a S
section
variable {α β:Type} {Q Q':α→aJ→Prop} {S:aJ} {δ:DE}
theorem W3.ok{a:α}(h:Q a S):W3 (.ok a S) Q:=⟨a,S,rfl,h⟩
theorem W3.bind{Q:β→aJ→Prop}{r:R3 α}{f:α→aJ→R3 β}(h:W3 r fun a S=>W3 (f a S) Q):W3 (r.bind f) Q:=by
 obtain⟨a,S1,e1,b,S2,h2,q⟩:=h
 exact⟨b,S2,by rw[e1];exact h2,q⟩
theorem W3.mono{r:R3 α}(h:W3 r Q)(m:∀a S,Q a S→Q' a S):W3 r Q':=let⟨a,S,e,q⟩:=h;⟨a,S,e,m a S q⟩
theorem W3.eq{r:R3 α}{a:α}{S':aJ}(e:r= .ok a S')(h:Q a S'):W3 r Q:=⟨a,S',e,h⟩
theorem W3.wh{c:Bool}{r:R3 α}(hc:c=true)(h:W3 r Q):W3 (R3.bF c r) Q:=by rw[hc];exact h
theorem W3.of{r:R α}{a:α}(e:r= .ok a)(h:Q a S):W3 (R3.of r S) Q:=by rw[e];exact⟨a,S,rfl,h⟩
end
section
variable {S:aJ} {δ:DE} {QV:V3→aJ→Prop} {QB:Bool→aJ→Prop} {QA:List V3→aJ→Prop} {QO:Ou→aJ→Prop}
theorem cQ{f:FD}{d:D}(e:f (down δ)= .ok d)(h:QV (.d d) S):W3 (xP f δ S) QV:=W3.bind (W3.of e (W3.ok h))
theorem qQ{f:FD}{d:D}(e:f (bz S δ)= .ok d)(ha:jm d=true)(h:QV (.d d) S):W3 (xT f δ S) QV:=W3.bind (W3.of e (W3.wh ha (W3.ok h)))
theorem CL{f:aw→R Bool}{b:Bool}(e:f (down δ)= .ok b)(h:QB b S):W3 (bP f δ S) QB:=W3.of e h
theorem Cu{f:aw→R Bool}{b:Bool}(e:f (bz S δ)= .ok b)(h:QB b S):W3 (bT f δ S) QB:=W3.of e h
theorem w_var{i:Nat}{v:V3}(e:δ[i]? =some (some v))(h:QV v S):W3 (bw i δ S) QV:=by unfold bw;rw [e];exact W3.ok h
theorem ie{f:aw→R (List D)}{ds:List D}(e:f (down δ)= .ok ds)(h:QV (.loc S.length) (S++[.lst ds])):W3 (kP f δ S) QV:=W3.bind (W3.of e (W3.ok h))
theorem cn(h:QA [] S):W3 (bG δ S) QA:=W3.ok h
theorem aD{f:FX}{g:FA}(h:W3 (f δ S) fun v S1=>W3 (g δ S1) fun vs S2=>QA (v ::vs) S2):W3 (ax f g δ S) QA:=W3.bind (h.mono fun _ _ h=>W3.bind (h.mono fun _ _ h=>W3.ok h))
theorem zD{g:FA}(h:W3 (g δ S) fun vs S1=>vs.length≤sizeLine∧QV (jd vs) S1):W3 (xw g δ S) QV:=W3.bind (h.mono fun _ _ h=>W3.wh (decide_eq_true h.1) (W3.ok h.2))
theorem Fu{g:FA}(h:W3 (g δ S) fun vs S1=>vs.length≤sizeLine∧QV (f7 vs) S1):W3 (DK g δ S) QV:=W3.bind (h.mono fun _ _ h=>W3.wh (decide_eq_true h.1) (W3.ok h.2))
theorem xv{g:D→D→R D}{fa fb:FX}(h:W3 (fa δ S) fun a S1=>W3 (fb δ S1) fun b S2=>∃x y d,a= .d x∧b= .d y∧g x y= .ok d∧QV (.d d) S2):W3 (x2 g fa fb δ S) QV:=
 W3.bind (h.mono fun _ _ h=>W3.bind (h.mono fun _ _ ⟨_,_,_,e1,e2,e3,q⟩=>by subst e1 e2;exact W3.bind (W3.of e3 (W3.ok q))))
theorem CC{g:D→D→R D}{fa fb:FX}(h:W3 (fa δ S) fun a S1=>W3 (fb δ S1) fun b S2=>∃x y k,a= .d x∧b= .d y∧g x y= .ok (.bl k)∧QB k S2):W3 (Ea g fa fb δ S) QB:=
 W3.bind (xv (h.mono fun _ _ h=>h.mono fun _ _ ⟨x,y,k,e1,e2,e3,q⟩=>⟨x,y, .bl k,e1,e2,e3,W3.ok q⟩))
theorem yu{fa fb:FX}(h:W3 (fa δ S) fun a S1=>W3 (fb δ S1) fun b S2=>∃x y d,a= .d x∧b= .d y∧cw x y= .ok d∧QV (.d d) S2):W3 (xD fa fb δ S) QV:=
 W3.bind (h.mono fun _ _ h=>W3.bind (h.mono fun _ _ ⟨_,_,_,e1,e2,e3,q⟩=>by subst e1 e2;exact W3.bind (W3.of e3 (W3.ok q))))
theorem cG{g:List V3→aJ→R3 V3}{fs:FA}(h:W3 (fs δ S) fun vs S1=>W3 (g vs S1) QV):W3 (bt g fs δ S) QV:=W3.bind h
theorem vP{g:List D→R D}{fs:FA}(h:W3 (fs δ S) fun vs S1=>∃ds d,vs=ds.map .d∧g ds= .ok d∧QV (.d d) S1):W3 (lB g fs δ S) QV:=
 W3.bind (h.mono fun _ _ ⟨ds,_,e1,e2,q⟩=>by subst e1;rw [nG];exact W3.bind (W3.of e2 (W3.ok q)))
theorem yT{it:FA}{t:FG}{c:FB}{f:FX}{own:List Str}{kp:List Nat}(h:W3 (it δ S) fun vs S1=>vs.length≤sizeLine∧W3 (j3 t c f (fk own kp δ) vs S1) fun ys S2=>QV (f7 ys) S2):W3 (f9 it t c f own kp δ S) QV:=
 W3.bind (h.mono fun _ _ h=>W3.wh (decide_eq_true h.1) (W3.bind (h.2.mono fun _ _ h=>W3.ok h)))
theorem aQ{F G:FZ}(h:W3 (F δ S) fun o S1=>∃δ1,o= .nx δ1∧W3 (G δ1 S1) QO):W3 (bo F G δ S) QO:=W3.bind (h.mono fun _ _ ⟨_,e,h⟩=>by subst e;exact h)
theorem Cn{F G:FZ}(h:W3 (F δ S) fun o S1=>∃v,o= .rt v∧QO (.rt v) S1):W3 (bo F G δ S) QO:=W3.bind (h.mono fun _ _ ⟨_,e,h⟩=>by subst e;exact W3.ok h)
theorem br{i:Nat}{f:FX}(hi:i < δ.length)(h:W3 (f δ S) fun v S1=>QO (.nx (δ.set i (some v))) S1):W3 (cb i f δ S) QO:=W3.bind (h.mono fun _ _ h=>W3.wh (decide_eq_true hi) (W3.ok h))
theorem eG{f:FX}(h:W3 (f δ S) fun v S1=>QO (.rt v) S1):W3 (gb f δ S) QO:=W3.bind (h.mono fun _ _ h=>W3.ok h)
theorem s_{c:FB}{F G:FZ}(h:W3 (c δ S) fun b S1=>if b then W3 (F δ S1) QO else W3 (G δ S1) QO):W3 (x6 c F G δ S) QO:=W3.bind (h.mono fun b _ h=>by cases b <;> exact h)
theorem EL{f:FX}{t:FG}(h:W3 (f δ S) fun v S1=>∃δ1,t v δ=some δ1∧QO (.nx δ1) S1):W3 (Du f t δ S) QO:=W3.bind (h.mono fun _ _ ⟨_,e,q⟩=>by rw[e];exact W3.ok q)
theorem og(h:QO (.nx δ) S):W3 (oQ δ S) QO:=W3.ok h
theorem kN{f:aw→R (List D)}{ds:List D}(e:f (down δ)= .ok ds)(h:QA (ds.map .d) S):W3 (iP f δ S) QA:=W3.bind (W3.of e (W3.ok h))
theorem lQ{f:FX}(h:W3 (f δ S) fun v S1=>∃n:Nat,v= .d (.int n)∧n < 1000000∧QA ((bZ 0 n).map .d) S1):W3 (kh f δ S) QA:=W3.bind (h.mono fun _ _ ⟨n,e,hn,q⟩=>by
 subst e
 refine W3.wh (decide_eq_true ⟨by omega,by omega⟩) (W3.ok ?_)
 rw[Int.toNat_natCast];exact q)
theorem qJ{f:FX}(h:W3 (f δ S) fun v S1=>∃ds,v= .d (.lst ds)∧QA (ds.map .d) S1):W3 (y0 f δ S) QA:=W3.bind (h.mono fun _ _ ⟨n,e,q⟩=>by subst e;exact W3.ok q)
theorem gz{it:FA}{t:FG}{F:FZ}(h:W3 (it δ S) fun vs S1=>W3 (lz t F vs δ S1) QO):W3 (jx it t F δ S) QO:=W3.bind h
theorem ip{i k:Nat}{f:FX}(hk:δ[i]? =some (some (.loc k)))(h0:∃ds,S[k]? =some (.lst ds))(h:W3 (f δ S) fun v S1=>∃d ds,v= .d d∧S1[k]? =some (.lst ds)∧ds.length < sizeLine∧QO (.nx δ) (S1.set k (.lst (ds++[d])))):W3 (iq i f δ S) QO:=by
 obtain⟨es,h0⟩:=h0
 unfold iq
 have e1:fu δ i=some k:=by unfold fu;rw [hk]
 have e2:cg S k=some es:=by unfold cg;simp only[h0]
 rw[e1];show W3 (match cg S k with | none=>_ | some _=>_) _
 rw[e2]
 refine W3.bind (h.mono fun v S1 ⟨d,ds,e,h1,hl,q⟩=>?_)
 subst e
 have e3:cg S1 k=some ds:=by unfold cg;simp only[h1]
 show W3 (match cg S1 k with | some ds=>_ | none=>_) _
 rw[e3]
 exact W3.wh (decide_eq_true hl) (W3.ok q)
theorem xY{fo fi fe:FX}(h:W3 (fe δ S) fun v S1=>W3 (fo δ S1) fun o S2=>W3 (fi δ S2) fun j S3=>∃d k n ds m,v= .d d∧o= .loc k∧j= .d (.int n)∧S3[k]? =some (.lst ds)∧m8 ds.length n=some m∧QO (.nx δ) (S3.set k (.lst (ds.set m d)))):W3 (tu fo fi fe δ S) QO:=
 W3.bind (h.mono fun _ _ h=>W3.bind (h.mono fun _ _ h=>W3.bind (h.mono fun _ S3 ⟨d,k,n,ds,m,e1,e2,e3,h1,h2,q⟩=>by
  subst e1 e2 e3
  have e3:cg S3 k=some ds:=by unfold cg;simp only[h1]
  show W3 (match cg S3 k with | some ds=>_ | none=>_) _
  rw[e3]
  show W3 (match m8 ds.length n with | some m=>_ | none=>_) _
  rw[h2]
  exact W3.ok q)))
theorem nk{t:FG}{body:FZ}:∀(vs:List V3) (n:Nat) (P:Nat→DE→aJ→Prop) {δ:DE} {S:aJ},P n δ S→
 (∀i v δ S,vs[i]? =some v→P (n+i) δ S→∃δ1,t v δ=some δ1∧W3 (body δ1 S) fun o S1=>∃δ2,o= .nx δ2∧P (n+i+1) δ2 S1)→W3 (lz t body vs δ S) fun o S1=>∃δ2,o= .nx δ2∧P (n+vs.length) δ2 S1
 | [],n,P,δ,S,h0,_=>W3.ok ⟨δ,rfl,h0⟩
 | v ::vs,n,P,δ,S,h0,hs=>by
   obtain⟨δ1,e1,o,S1,e2,δ2,rfl,p2⟩:=hs 0 v δ S rfl h0
   have ih:=nk vs (n+1) P p2 (fun i v' δ' S' hi hp=>by
    have:=hs (i+1) v' δ' S' (by simpa using hi) (by rw[show n+(i+1)=n+1+i by omega];exact hp)
    rw[show n+(i+1)+1=n+1+i+1 by omega] at this
    exact this)
   rw[show n+1+vs.length=n+(v ::vs).length by rw[List.length_cons];omega] at ih
   unfold lz
   rw[e1]
   refine W3.bind ⟨_,_,e2,?_⟩
   exact ih
theorem cc{t:FG}{body:FZ}{vs:List V3}(P:Nat→DE→aJ→Prop){δ:DE}{S:aJ}(h0:P 0 δ S)
 (hs:∀i v δ S,vs[i]? =some v→P i δ S→∃δ1,t v δ=some δ1∧W3 (body δ1 S) fun o S1=>∃δ2,o= .nx δ2∧P (i+1) δ2 S1):W3 (lz t body vs δ S) fun o S1=>∃δ2,o= .nx δ2∧P vs.length δ2 S1:=by
 have:=nk (t:=t) (body:=body) vs 0 P h0 (fun i v δ S hi hp=>by simpa using hs i v δ S hi (by simpa using hp))
 simpa using this
theorem oq{t:FG}{c:FB}{f:FX}{δ:DE}:∀(vs:List V3) (n:Nat) (P:Nat→List V3→aJ→Prop) {ys:List V3} {S:aJ},P n ys S→
 (∀i v ys S,vs[i]? =some v→P (n+i) ys S→∃δ1,t v δ=some δ1∧W3 (c δ1 S) fun b S1=>if b then W3 (f δ1 S1) fun y S2=>P (n+i+1) (ys++[y]) S2 else P (n+i+1) ys S1)→W3 (j3 t c f δ vs S) fun zs S1=>P (n+vs.length) (ys++zs) S1
 | [],n,P,ys,S,h0,_=>W3.ok (by rw[List.append_nil];exact h0)
 | v ::vs,n,P,ys,S,h0,hs=>by
   obtain⟨δ1,e1,b,S1,e2,h2⟩:=hs 0 v ys S rfl h0
   have ih:∀{ys' S'},P (n+1) ys' S'→W3 (j3 t c f δ vs S') fun zs S1=>P (n+(v ::vs).length) (ys'++zs) S1:=fun {ys' S'} p=>by
    have:=oq (t:=t) (c:=c) (f:=f) (δ:=δ) vs (n+1) P p (fun i v' ys' S' hi hp=>by
     have:=hs (i+1) v' ys' S' (by simpa using hi) (by rw[show n+(i+1)=n+1+i by omega];exact hp)
     rw[show n+(i+1)+1=n+1+i+1 by omega] at this
     exact this)
    rw[show n+1+vs.length=n+(v ::vs).length by rw[List.length_cons];omega] at this
    exact this
   unfold j3
   rw[e1]
   refine W3.bind ⟨b,S1,e2,?_⟩
   cases b with
   | true=>
     rw[if_pos rfl] at h2 ⊢
     exact W3.bind (h2.mono fun y S2 p=>W3.bind ((ih p).mono fun zs S3 q=>W3.ok (by rw[List.append_assoc] at q;exact q)))
   | false=>rw [if_neg (by decide)] at h2 ⊢;exact ih h2
theorem p9{t:FG}{c:FB}{f:FX}{δ:DE}{vs:List V3}(P:Nat→List V3→aJ→Prop){S:aJ}(h0:P 0 [] S)
 (hs:∀i v ys S,vs[i]? =some v→P i ys S→∃δ1,t v δ=some δ1∧W3 (c δ1 S) fun b S1=>if b then W3 (f δ1 S1) fun y S2=>P (i+1) (ys++[y]) S2 else P (i+1) ys S1):W3 (j3 t c f δ vs S) fun zs S1=>P vs.length zs S1:=by
 have:=oq (t:=t) (c:=c) (f:=f) (δ:=δ) vs 0 P h0 (fun i v ys S hi hp=>by simpa using hs i v ys S hi (by simpa using hp))
 simpa using this
theorem lZ{QB:Bool→aJ→Prop}(h:QB true S):W3 (o4 δ S) QB:=W3.ok h
theorem qe{N:List Str}{F:FZ}{vs:List V3}{δ:DE}(e:bx N vs=δ)(h:W3 (F δ S) fun o S1=>∃v,o= .rt v∧QV v S1):W3 (j6 N F vs S) QV:=by
 subst e
 exact W3.bind (h.mono fun _ _ ⟨_,e,q⟩=>by subst e;exact W3.ok q)
noncomputable def HF(S:aJ):Prop:=∀o∈S,∃ds,o=SO.lst ds
end
end L3
namespace L3
open PySem PySem.Spec PyProof.Rows L2
section
variable {S:aJ} {δ:DE} {QV:V3→aJ→Prop}
theorem gM{it:FA}{t:FG}{c:FB}{f:FX}{own:List Str}{kp:List Nat}(P:Nat→List D→aJ→Prop)(h:W3 (it δ S) fun vs S1=>vs.length≤sizeLine∧P 0 [] S1∧
 (∀i v ds S2,vs[i]? =some v→P i ds S2→∃δ1,t v (fk own kp δ)=some δ1∧W3 (c δ1 S2) fun b S3=>if b then W3 (f δ1 S3) fun y S4=>∃d,y= .d d∧P (i+1) (ds++[d]) S4 else P (i+1) ds S3)∧
 ∀ds S2,P vs.length ds S2→QV (.d (.lst ds)) S2):W3 (f9 it t c f own kp δ S) QV:=by
 refine yT (h.mono fun vs S1 ⟨hl,h0,hs,hq⟩=>⟨hl,?_⟩)
 refine(p9 (fun i ys S=>∃ds,ys=ds.map V3.d∧P i ds S) ⟨[],rfl,h0⟩ ?_).mono fun zs S2 ⟨ds,e,p⟩=>?_
 ·rintro i v ys S2 hv ⟨ds,rfl,p⟩
  obtain⟨δ1,e1,h1⟩:=hs i v ds S2 hv p
  refine⟨δ1,e1,h1.mono fun b S3 h3=>?_⟩
  cases b with
  | true=>
    rw[if_pos rfl] at h3 ⊢
    exact h3.mono fun y S4 ⟨d,e,p⟩=>by subst e;exact⟨ds++[d],by simp,p⟩
  | false=>rw [if_neg (by decide)] at h3 ⊢;exact⟨ds,rfl,h3⟩
 ·subst e
  unfold f7
  rw[nG]
  exact hq ds S2 p
structure gg (n:Nat) (d:D):Prop where
 pl:ef d=true
 ly:(toPy d).canLay0=true
 dp:(toPy d).depth≤n
theorem gg.int(i:Int):gg 0 (.int i):=⟨by unfold ef;rfl,by unfold toPy PyData.canLay0;rfl,by unfold toPy PyData.depth;omega⟩
theorem gg.bl(b:Bool):gg 0 (.bl b):=⟨by unfold ef;rfl,by unfold toPy PyData.canLay0;rfl,by unfold toPy PyData.depth;omega⟩
theorem gg.cD:gg 0 .cD:=⟨by unfold ef;rfl,by unfold toPy PyData.canLay0;rfl,by unfold toPy PyData.depth;omega⟩
theorem gg.str{s:Str}(h:(PyData.str s).canLay0=true):gg 0 (.str s):=⟨by unfold ef;rfl,by unfold toPy;exact h,by unfold toPy PyData.depth;omega⟩
theorem gg.mono{n m:Nat}{d:D}(h:gg n d)(hm:n≤m):gg m d:=⟨h.pl,h.ly,Nat.le_trans h.dp hm⟩
theorem gg.all{n:Nat}:∀{ds:List D},(∀d∈ds,gg n d)→gR ds=true∧PyData.canLayAll0 (f6 ds)=true∧PyData.depthAll (f6 ds)≤n
 | [],_=>⟨by unfold gR;rfl,by unfold f6 PyData.canLayAll0;rfl,by unfold f6 PyData.depthAll;omega⟩
 | d ::ds,h=>by
   obtain⟨h1,h2,h3⟩:=gg.all (ds:=ds) fun x hx=>h x (List.mem_cons_of_mem _ hx)
   have f:=h d List.mem_cons_self
   refine⟨by unfold gR;rw [f.pl,h1];rfl,by unfold f6 PyData.canLayAll0;rw [f.ly,h2];rfl,?_⟩
   unfold f6 PyData.depthAll
   have:=f.dp
   omega
theorem gg.lst{n:Nat}{ds:List D}(h:∀d∈ds,gg n d):gg (n+1) (.lst ds):=by
 obtain⟨h1,h2,h3⟩:=gg.all h
 exact⟨by unfold ef;exact h1,by unfold toPy PyData.canLay0;exact h2,by unfold toPy PyData.depth;omega⟩
theorem gg.tup{n:Nat}{ds:List D}(h:∀d∈ds,gg n d):gg (n+1) (.tup ds):=by
 obtain⟨h1,h2,h3⟩:=gg.all h
 exact⟨by unfold ef;exact h1,by unfold toPy PyData.canLay0;exact h2,by unfold toPy PyData.depth;omega⟩
theorem gg.sh{n:Nat}{d:D}(h:gg n d)(hn:n≤64):SeqAt.shaped (toPy d)=true:=by
 unfold SeqAt.shaped
 rw[h.ly,decide_eq_true (Nat.le_trans h.dp hn)]
 rfl
theorem um{d e:List D}:zU (.lst d) (.lst e)=R.bF (ef (.lst d) && ef (.lst e) && SeqAt.shaped (toPy (.lst d)) && SeqAt.shaped (toPy (.lst e))) (.ok (PyData.eqv (toPy (.lst d)) (toPy (.lst e)))):=rfl
theorem gg.Hs{n:Nat}{ds:List D}(h:gg n (.lst ds))(hn:n≤64):zU (.lst ds) (.lst ds)= .ok true:=by
 rw[um,h.pl,h.sh hn,SeqAt.eqv_refl _ h.ly]
 rfl
end
end L3
namespace L3
open PySem PySem.Spec PyProof.Rows L2
end L3
end
section
set_option maxRecDepth 100000
set_option maxHeartbeats 4000000
namespace L2
open PySem PySem.Spec PyProof.Rows
section
variable {X:Cx}
noncomputable def BH:D→Bool | .cD=>true | _=>false
noncomputable def Jw(d e:D):R D:=match e with | .cD=> .ok (.bl (BH d)) | _=> .no
noncomputable def Iw(d e:D):R D:=match e with | .cD=> .ok (.bl (!BH d)) | _=> .no
theorem vW:jq X (.type "int") (fun xs H Q=>∃x n,xs=[.str x]∧PySem.intText? x=some n∧x.length≤640∧Q (.int n) H):=by
 intro pins s σ H xs us Q I r h
 obtain⟨x,n,rfl,h1,h2,q⟩:=h
 obtain⟨u,rfl,ru⟩:=vals1 r
 obtain⟨t,rfl⟩:=ru
 exact PySem.W.KIN.call_text h1 h2 ⟨.int n,H,I.tok _,⟨_,rfl⟩,q⟩
noncomputable def zJ:List D→R D
 | [.str x]=>R.bF (decide (x.length≤640)) (match PySem.intText? x with | some n=> .ok (.int n) | none=> .no)
 | _=> .no
theorem DA:cL X (.type "int") zJ:=cL.of vW fun B H ds d xs Q _ rs hg q=>by
 unfold zJ at hg
 split at hg
 ·obtain⟨h1,h2⟩:=R.ba hg
  split at h2
  ·rename_i e
   cases h2
   obtain⟨x,rfl,r⟩:=rs.one
   exact⟨_,_,by rw[Rep.str.mp r],e,of_decide_eq_true h1,q _ H (aN.refl H) (Rep.int.mpr rfl)⟩
  ·cases h2
 ·cases hg
noncomputable def xq(ds:List D):R D:=match ds with | [.str _]=>zJ ds | _=>cInt ds
theorem DX:cL X (.type "int") xq:=cL.or DA Ek fun a d h=>by
 unfold xq at h
 split at h
 ·exact .inl h
 ·exact .inr h
noncomputable def CZ(f:FD):FD:=fun δ=>(f δ).bind fun d=>match d with | .int i=> .ok (.int (-i)) | _=> .no
theorem uG{a:Expr}{f:FD}{pos:Pos}(h:QD X a f):QD X (.UnaryOp .USub a pos) (CZ f):=⟨(FI Dq h.1).imp fun σ H Q ⟨Z,B,δ,d,E,hf,q⟩=>by
 obtain⟨d1,h1,h2⟩:=R.ak hf
 split at h2
 ·cases h2
  exact⟨Z,B,δ,_,E,h1,fun v H1 s1 r1=>⟨_,Rep.int.mp r1,q _ H1 s1 (Rep.int.mpr rfl)⟩⟩
 ·cases h2⟩
noncomputable def uK(d:D)(ds:List D):R D:=match d,ds with
 | .str x,[.str y]=> .ok (.int (Txt.find x y))
 | _,_=> .no
theorem m_find:F8 X "str.find" uK:=by
 intro pins s σ H B da d ds x xs v us I hb rx rxs ra rs hg
 unfold uK at hg
 split at hg
 ·cases hg
  rw[Rep.str.mp ra] at rx
  obtain⟨t,rfl⟩:=rx
  obtain⟨y,rfl,r⟩:=rs.one
  rw[Rep.str.mp r] at rxs
  obtain⟨u,rfl,ru⟩:=vals1 rxs
  obtain⟨t2,rfl⟩:=ru
  exact PySem.SC.find ⟨.int _,H,I.tok _,⟨_,rfl⟩,aN.refl H,Rep.int.mpr rfl⟩
 ·cases hg
theorem yF{o e:Expr}{f:FD}{fs:aw→R (List D)}{apos cpos:Pos}(ho:QD X o f)(ha:AO X [e] fs)
 (hbase:attributeBase o "find" X.env (eval o X.env)=eval o X.env:=by rfl)
 (hfew:((backTo cpos (starEach [e] X.env)).all (fun x=>!x.1) && (backToKw cpos (keywordEach [] X.env)).all (fun x=>x.1.isSome)
   && decide (([e]:List Expr).length+([]:List Keyword).length+(if([]:List Keyword).isEmpty then 0 else 1) < 30))=true:=by rfl)
 (hline:(apos.endLine==cpos.line)=true:=by rfl) (hs:starEach [e] X.env=(false,eval e X.env) ::starEach [] X.env:=by rfl) :
 QD X (.Call (.Attribute o "find" apos) [e] [] cpos) (vY "str" uK f fs):=⟨ET F.plainAttrs_str F.slot_str_find F.type_str_find m_find ho.1 ha.1 (.inl rfl) hbase hfew hline hs⟩
noncomputable def Jn(kvs:List (Str × Str)):D:= .dct (kvs.map fun p=>Sum.inr p.1) (kvs.map fun p=> .str p.2)
noncomputable def Jq(kvs:List (Str × Str)):List (Key × V):=kvs.map fun p=>((Sum.inr p.1:Key),V.str p.2)
noncomputable def IV(d k:D):R D:=match d,k with
 | .dct ks ds, .str x=>(match (ks.zip ds).find? fun p=>decide (p.1=Sum.inr x) with | some p=> .ok p.2 | none=> .no)
 | _,_=> .no
end
end L2
namespace L3
open PySem PySem.Spec PyProof.Rows L2
section
variable {X:Cx} {cl:Nat→Addr}
noncomputable def HG(f:FX):FB:=fun δ S=>(f δ S).bind fun v S=>match v with | .d (.bl b)=> .ok b S | _=> .no
noncomputable def Iu(f g:FX):FX:=fun δ S=>(HG f δ S).bind fun b S=>if b then g δ S else .ok (.d (.bl false)) S
noncomputable def JF(f g:FX):FX:=fun δ S=>(HG f δ S).bind fun b S=>if b then .ok (.d (.bl true)) S else g δ S
noncomputable def xG(i:Nat)(F:FZ):FZ:=fun δ S=>match fu δ i with
 | some k=>(match cg S k with | some ds=>F (δ.set i (some (.d (.lst ds)))) (S.set k .g6) | none=> .no)
 | none=> .no
theorem Ac(i:Nat){sts:List Stmt}{F:FZ}(h:xi X cl sts F):xi X cl sts (xG i F):=⟨h.1.imp fun D σ H ⟨ρ,S,δ,o,S',E,hf,q⟩=>by
 unfold xG at hf
 split at hf
 ·rename_i k hk
  split at hf
  ·rename_i ds hds
   obtain⟨v,v1,v2⟩:=E.val i _ (kD hk)
   unfold aW at v2
   obtain⟨a,a1,rfl⟩:=v2
   obtain⟨w,p,r⟩:=E.sw.g6 a1 (cZ hds)
   have E1:d_ X.K cl ⟨ρ.r,ρ.z,a ::ρ.f⟩ H (S.set k .g6) σ (δ.set i (some (.d (.lst ds)))):=⟨by rw[List.length_set];exact E.len,w,fun j d e=>by
    by_cases h:i=j
    ·subst h
     rw[List.getElem?_set_self (by obtain⟨h1,_⟩:=List.getElem?_eq_some_iff.mp (kD hk);exact h1)] at e
     cases e
     exact⟨_,v1,by unfold aW;exact r⟩
    ·rw[List.getElem?_set_ne h] at e
     obtain⟨u,u1,u2⟩:=E.val j d e
     exact⟨u,u1,u2.pre p⟩⟩
   exact⟨_,_,_,o,S',E1,hf,q.pre p⟩
  ·cases hf
 ·cases hf⟩
theorem Ft{i k:Nat}{ds:List D}{F:FZ}{δ:DE}{S:aJ}{QO:Ou→aJ→Prop}(hk:δ[i]? =some (some (.loc k)))(hS:S[k]? =some (.lst ds))(h:W3 (F (δ.set i (some (.d (.lst ds)))) (S.set k .g6)) QO):W3 (xG i F δ S) QO:=by
 unfold xG
 have e1:fu δ i=some k:=by unfold fu;rw [hk]
 have e2:cg S k=some ds:=by unfold cg;simp only[hS]
 simp only[e1,e2]
 exact h
end
noncomputable def Flat(S:aJ):Prop:=∀o∈S,∀n,mE n o=true
theorem Flat.all{S:aJ}(h:Flat S)(n:Nat):(S.take n).all (mE n)=true:=List.all_eq_true.mpr fun o ho=>h o (List.mem_of_mem_take ho) n
theorem Flat.set{S:aJ}(h:Flat S)(k:Nat){x:SO}(hx:∀n,mE n x=true):Flat (S.set k x):=fun o ho=>by
 rcases List.mem_or_eq_of_mem_set ho with z | z
 ·exact h o z
 ·rw[z];exact hx
theorem Flat.push{S:aJ}(h:Flat S){x:SO}(hx:∀n,mE n x=true):Flat (S++[x]):=fun o ho=>by
 rcases List.mem_append.mp ho with z | z
 ·exact h o z
 ·rw[List.mem_singleton.mp z];exact hx
theorem Flat.take{S:aJ}(h:Flat S)(n:Nat):Flat (S.take n):=fun o ho=>h o (List.mem_of_mem_take ho)
theorem Flat.nil:Flat []:=fun o ho=>by cases ho
theorem mZ{N:List Str}{F:FZ}{vs:List V3}{S:aJ}{QV:V3→aJ→Prop}(h:W3 (j6 N F vs S) fun v S1=>Flat S1∧d8 S.length v=true∧∃d,res S1 v=some d∧QV (.d d) (S1.take S.length)):W3 (lA N F vs S) QV:=
 W3.bind (h.mono fun v S1 ⟨hl,hg,d,e,q⟩=>by
  rw[e]
  exact W3.wh (by rw[hl.all,hg];rfl) (W3.ok q))
end L3
end
section
set_option maxRecDepth 100000
set_option maxHeartbeats 4000000
namespace PySem
open Sem (wp)
open AutoSeq1 (wpAny_loadPart')
section
variable {prog:Program} {w:World} {A:Around} {E:Value→Shared→Prop} {s:Shared}
end
end PySem
namespace L2
open PySem PySem.Spec PyProof.Rows
section
variable {X:Cx}
noncomputable def F9(f:FD):FD:=fun δ=>(f δ).bind fun d=>match d with
 | .int j=>R.bF (decide (-(2 ^ 62)≤j∧j < 16777216)) (.ok (.tup (bZ 0 j.toNat)))
 | _=> .no
end
end L2
end
section
set_option maxRecDepth 100000
set_option maxHeartbeats 4000000
namespace PySem
open Sem (wp)
open AutoSeq1 (wpAny_loadPart')
section
variable {prog:Program} {w:World} {A:Around} {E:Value→Shared→Prop} {s:Shared}
theorem mC{it l:Addr}{i:Nat}{items:Array Value}{x:Value}{Q:Value→Shared→Prop}(hit:s.heap.IsTupleIter it l i)(hl:s.heap.IsTuple l items)(hx:items[i]? =some x)
 (hQ:∀h',h'.IsTupleIter it l (i+1)→Heap.SameBut it s.heap h'→Q x {s with heap:=h'}):wpAny (model prog w) A (Builtin.SmallTypes.nextOf (.ref it)) Q E s:=by
 obtain⟨o,ho,hc,hd⟩:=id hit;obtain⟨ol,hol,_,nl,hdl⟩:=hl
 unfold Builtin.SmallTypes.nextOf
 refine wpAny_bind (wpAny_callSpecial?_slot (name:=Str.ofString "__next__") hit.typeIs F.slot_tuple_iterator_next (wpAny_call_entry F.slot_tuple_iterator_next hit.typeIs F.entry_tuple_iterator_next ?_ (F.args_tuple_iterator_next_1 _)))
 show wpAny _ _ (field (.ref it) 0 >>=_) _ _ s;refine wpAny_bind (wpAny_field ho hd (x:= .ref l) rfl ?_)
 show wpAny _ _ (if(Value.ref l==Value.none)=true then _ else _) _ _ s;rw [if_neg (show ¬((Value.ref l==Value.none)=true) from Bool.false_ne_true)]
 show wpAny _ _ (field (.ref it) 1 >>=_) _ _ s;refine wpAny_bind (wpAny_field ho hd (x:= .int i 0) rfl ?_)
 show wpAny _ _ (seqItems? (.ref l) >>=_) _ _ s;refine wpAny_bind (wpAny_seqItems hol hdl ?_)
 simp only[Int.toNat_natCast,hx]
 refine wpAny_bind (wpAny_setField ho hd (by simp) (wpAny_pure ⟨x,rfl,wpAny_pure (hQ _ ⟨_,Heap.get?_update_self _ ho (Obj.isFreed_of_fields (Obj.data_mapFields hd _)),(Obj.cls_mapFields ..).trans hc,by rw[Obj.data_mapFields hd];simp [rawInt]⟩ (Heap.SameBut.update ..))⟩))
theorem jR{it l:Addr}{i:Nat}{items:Array Value}{Q:Value→Shared→Prop}(hh:A.handled=none)(hit:s.heap.IsTupleIter it l i)(hl:s.heap.IsTuple l items)(hx:items[i]? =none)
 (hE:∀h' e,Heap.ExtBut it s.heap h'→(∃o,h'.get? e=some o∧o.cls= .type "StopIteration")→E (.ref e) {s with heap:=h'}):wpAny (model prog w) A (Builtin.SmallTypes.nextOf (.ref it)) Q E s:=by
 obtain⟨o,ho,hc,hd⟩:=id hit;obtain⟨ol,hol,_,nl,hdl⟩:=hl
 unfold Builtin.SmallTypes.nextOf
 refine wpAny_bind (wpAny_callSpecial?_slot (name:=Str.ofString "__next__") hit.typeIs F.slot_tuple_iterator_next (wpAny_call_entry F.slot_tuple_iterator_next hit.typeIs F.entry_tuple_iterator_next ?_ (F.args_tuple_iterator_next_1 _)))
 show wpAny _ _ (field (.ref it) 0 >>=_) _ _ s;refine wpAny_bind (wpAny_field ho hd (x:= .ref l) rfl ?_)
 show wpAny _ _ (if(Value.ref l==Value.none)=true then _ else _) _ _ s;rw [if_neg (show ¬((Value.ref l==Value.none)=true) from Bool.false_ne_true)]
 show wpAny _ _ (field (.ref it) 1 >>=_) _ _ s;refine wpAny_bind (wpAny_field ho hd (x:= .int i 0) rfl ?_)
 show wpAny _ _ (seqItems? (.ref l) >>=_) _ _ s;refine wpAny_bind (wpAny_seqItems hol hdl ?_)
 simp only[Int.toNat_natCast,hx]
 refine wpAny_bind (wpAny_rule (wpAny_bind (wpAny_setField ho hd (by simp) ?_)))
 show wpAny _ _ (newExc (.type "StopIteration") [] >>=_) _ _ _;refine wpAny_bind ?_;simp only[newExc,newTuple]
 refine wpAny_bind (wpAny_newObj_type ?_ (by size_fits))
 refine wpAny_bind (m:=firstArgMember _ _) (wpAny_of_eq (a:=Value.none) (by first | rfl | (simp only[firstArgMember];rfl)) ?_);refine wpAny_newObj_type ?_ (by size_fits)
 simp only[raiseNew];refine wpAny_bind (wpAny_handled ?_)
 first | rw[show A.in1.handled=none from hh] | rw[hh]
 exact wpAny_bind (wpAny_pure (wpAny_throw (hE _ _ (((Heap.SameBut.update ..).extBut.push _).push _) ⟨_,Heap.get?_push_size _ rfl,rfl⟩)))
end
theorem vX{prog:Program}{w:World}{A:Around}(hh:A.handled=none)(it l:Addr)(hne:l≠it)(items:Array Value) :
 Draws prog w A it [it,l] items.size (fun i v=>items[i]? =some v) (fun i h=>h.IsTupleIter it l i∧h.IsTuple l items) where
 live:=fun _ _ st=>let⟨o,ho,_⟩:=st.1;⟨o,ho⟩
 frame:=fun _ _ _ st hk=>⟨st.1.at fun o e=>hk it (by simp) o e,Heap.IsTuple.at st.2 fun o e=>hk l (by simp) o e⟩
 item:=fun i s Q E hi st hQ=>mC st.1 st.2 (x:=items[i]) (by simp [hi]) fun h' hit' hs'=>hQ _ h' s.toks (by simp [hi]) ⟨hit',st.2.extBut hs'.extBut hne⟩ hs'
 done:=fun s Q E st hE=>jR hh st.1 st.2 (by simp) hE
theorem mM(l:Addr)(items:Array Value)(o:Obj)(n:Nat)(hc:o.cls= .type "tuple")(hd:o.data= .seq items n) :
 Meets (Builtin.«enumerate.__new__» ⟨[.type "enumerate", .ref l],[]⟩) (fun _ R s=>s.heap.get? l=some o∧
  R (.ok (.ret (.ref (s.heap.push {cls:= .type "tuple_iterator",data:= .fields #[.ref l, .int 0 0]}).objs.size)))
   {s with heap:=(s.heap.push {cls:= .type "tuple_iterator",data:= .fields #[.ref l, .int 0 0]}).push {cls:= .type "enumerate",data:= .fields #[.none, .bool false, .ref s.heap.objs.size,rawInt 0, .none, .none]}}):=
 .of_wp fun prog w A R s h=>by
  obtain⟨hp,g,d,tk,os⟩:=s;obtain⟨hl,h⟩:=h
  have hsub:=sub_enumerate
  have hL:Heap.IsTuple (Shared.heap ⟨hp,g,d,tk,os⟩) l items:=⟨_,hl,hc,n,hd⟩
  wp_walk using wpAny_loadPart' hl
  refine wpAny_stack_any fun st=>wpAny_pure ?_
  split
  ·rename_i c _ _ _ _ _
   cases(c==Value.type "enumerate") <;> (wp_walk using wpAny_loadPart' hl,wpAny_pyIter_tuple hL;exact⟨_,rfl,h⟩)
  ·wp_walk using wpAny_loadPart' hl,wpAny_pyIter_tuple hL
   exact⟨_,rfl,h⟩
theorem uz{prog:Program}{w:World}{A:Around}{E:Value→Shared→Prop}{s:Shared}{l:Addr}{items:Array Value}{Q:Value→Shared→Prop}(hL:s.heap.IsTuple l items)
 (h:∀h':Heap,IsEnum h' (s.heap.objs.size+1) s.heap.objs.size 0 .none→h'.IsTupleIter s.heap.objs.size l 0→(∀b o,s.heap.get? b=some o→h'.get? b=some o)→Q (.ref (s.heap.objs.size+1)) {s with heap:=h'}) :
 wpAny (model prog w) A (call (.type "enumerate") [.ref l]) Q E s:=by
 obtain⟨o,hl,hc,n,hd⟩:=hL
 refine callType_new F.called_enumerate (by decide) (F.typeCall_enumerate_1 _) (F.newCall_enumerate_1 _) (fun obj=>F.args_object_init_2 obj _) F.entry_enumerate_new (mM l items o n hc hd) ⟨hl,?_⟩
 have hz:(s.heap.push {cls:= .type "tuple_iterator",data:= .fields #[.ref l, .int 0 0]}).objs.size=s.heap.objs.size+1:=Heap.size_push ..
 show _∧_;rw [hz]
 have he:IsEnum ((s.heap.push {cls:= .type "tuple_iterator",data:= .fields #[.ref l, .int 0 0]}).push {cls:= .type "enumerate",data:= .fields #[.none, .bool false, .ref s.heap.objs.size,rawInt 0, .none, .none]}) (s.heap.objs.size+1) s.heap.objs.size 0 .none:=by
  have:=Heap.get?_push_size (s.heap.push {cls:= .type "tuple_iterator",data:= .fields #[.ref l, .int 0 0]}) (o:={cls:= .type "enumerate",data:= .fields #[.none, .bool false, .ref s.heap.objs.size,rawInt 0, .none, .none]}) rfl
  rw[hz] at this;exact this
 exact⟨⟨_,he,rfl⟩,h _ he ⟨_,Heap.get?_push_of_some _ (Heap.get?_push_size _ rfl),rfl,rfl⟩ fun b o x=>Heap.get?_push_of_some _ (Heap.get?_push_of_some _ x)⟩
end PySem
namespace L2
open PySem PySem.Spec PyProof.Rows
noncomputable def G8(K:PySem.W.Frag)(a:Addr):It:=
 ⟨fun i H=>∃xs x,mz K H a xs∧xs[i]? =some x,fun i H v H'=>∃p x,H p=none∧v= .ref p∧(∀xs,mz K H a xs→xs[i]? =some x)∧H'=upd H p (.tup [.int i,x]),fun i H=>∃xs,mz K H a xs∧xs.length≤i⟩
theorem ub{P:Program}{w:World}{K:PySem.W.Frag}{elts:List Expr}{k:Nat}{pos:Pos}(a e it:Addr)(hei:e≠it):Turn P w K (.Tuple elts k pos) (G8 K a) [e,it] e (fun i h=>(∃old,IsEnum h e it ((i:Nat):Int) old)∧h.IsTupleIter it a i) where
 mem:=by simp
 obj:=fun i h st b hb=>by
  obtain⟨⟨old,he⟩,o,ho,c,d⟩:=st
  rcases List.mem_cons.mp hb with rfl | hb
  ·exact⟨_,he,fun v z=>by cases z⟩
  ·have e:b=it:=by simpa using hb
   subst e
   exact⟨o,ho,fun v z=>by rw[d] at z;cases z⟩
 keep:=fun i h h' st k=>by
  obtain⟨⟨old,he⟩,hi⟩:=st
  exact⟨⟨old,k e (by simp) _ he⟩,hi.at fun o x=>k it (by simp) o x⟩
 item:=by
  intro X hP hw hK hc i pins s σ H E I hf st hg
  subst hP hw hK
  obtain⟨xs,x,hq,hx⟩:=hg
  obtain⟨its,rv,p,hz⟩:=I.tuple hq
  have p':s.heap.IsTuple a its.toArray:=p
  obtain⟨u,hu,ru⟩:=rv.get hx
  obtain⟨⟨old,he⟩,hit⟩:=st
  obtain⟨f0,f1,f2,f3,f4,f5⟩:=hf e (by simp)
  obtain⟨g0,g1,g2,g3,g4,g5⟩:=hf it (by simp)
  have ha_it:a≠it:=fun z=>by
   obtain⟨o1,h1,c1,_⟩:=p'
   obtain⟨o2,h2,c2,_⟩:=hit
   rw[z,h2] at h1;cases h1
   rw[c2] at c1;exact absurd c1 (by decide)
  have ha_e:e ∉ [it,a]:=fun z=>by
   rcases List.mem_cons.mp z with q | q
   ·exact hei q
   ·have q:e=a:=by simpa using q
    obtain⟨o1,h1,c1,_⟩:=p'
    rw[←q,he] at h1;cases h1
    exact absurd (show Value.type "enumerate"=Value.type "tuple" from c1) (by decide)
  refine wpAny_pyNext_enum_itemD (vX (A:=X.A.in1) (I.ok.hd hc) it a ha_it its.toArray) he ⟨hit,p'⟩ (by have:=(List.getElem?_eq_some_iff.mp hu).1;simpa using this) hei ha_e fun u2 h₁ tk hu2 heo st₁ ht₁ hz₁ hk₁=>⟨_,rfl,?_⟩
  obtain rfl:u2=u:=by
   have h1:its[i]? =some u2:=by simpa using hu2
   rw[hu] at h1;cases h1;rfl
  obtain⟨hit₁,_⟩:=st₁
  refine wpAny_letOwnedTupleGo_enum heo fun h₂ he₂ hs₂=>?_
  replace hs₂:Heap.SameBut e h₁ h₂:=hs₂
  have hel:e < s.heap.objs.size:=Heap.lt_size he
  have ht₂:h₂.get? s.heap.objs.size=some {cls:= .type "tuple",data:= .seq #[.int i tk,u2]}:=(hs₂.2 _ (Nat.ne_of_gt hel)).trans ht₁
  have kk:∀b o,b≠e→b≠it→s.heap.get? b=some o→h₂.get? b=some o:=fun b o h1 h2 q=>(hs₂.2 b h1).trans (hk₁ b o h1 h2 q)
  have hn:H s.heap.objs.size=none:=I.fresh
  have sm:aN H (upd H s.heap.objs.size (.tup [.int i,x])):=a0 hn
  have nit:∀b o,H b=some o→b≠e∧b≠it:=fun b o q=>⟨fun z=>(by rw[z,f0] at q;cases q),fun z=>(by rw[z,g0] at q;cases q)⟩
  have hok:ky X.prog X.w (upd H s.heap.objs.size (.tup [.int i,x])) h₂:=fun b ob q=>by
   by_cases hb:b=s.heap.objs.size
   ·subst hb
    rw[bc] at q
    cases q
    exact⟨by show 2≤sizeLine;decide,[.int i tk,u2], .cons ⟨_,rfl⟩ (.cons ru .nil),⟨_,ht₂,rfl,_,rfl⟩⟩
   ·rw[bf hb] at q
    refine(I.hok b ob q).ua (fun c v hc z=>?_) (fun c z=>sm c _ z) fun c ys z=>sm c _ z
    rcases hc with rfl | hc
    ·exact kk c v (nit c _ q).1 (nit c _ q).2 z
    ·exact kk c v (nit c _ hc).1 (nit c _ hc).2 z
  have nch:∀b,b ∉ [e,it]→b≠e∧b≠it:=fun b hb=>⟨fun z=>hb (by simp [z]),fun z=>hb (by simp [z])⟩
  have I2:Inv X pins σ (upd H s.heap.objs.size (.tup [.int i,x])) {s with heap:=h₂,toks:=tk+1}:=by
   refine I.step (g':=s.gens) (d':=s.drawn) (ch:=[e,it]) (fun b hb=>?_) (fun b o _ _ hb q _=>kk b o (nch b hb).1 (nch b hb).2 q) (fun b o _ _ hb q _=>⟨o.slots,kk b o (nch b hb).1 (nch b hb).2 q⟩)
    (fun b o hb q n=>by rw[bf (Nat.ne_of_lt (Heap.lt_size q))];exact n) (fun b o hb q=>⟨o,kk b o (nch b hb).1 (nch b hb).2 q⟩) (fun b ys z=>sm b _ z) (fun b o u z=>sm b _ z) (fun b ps z=>⟨#[],by rw[sm b _ z];simp⟩) (fun m hm=>?_) hok I.bare
   ·rcases List.mem_cons.mp hb with rfl | hb
    ·exact⟨f3,f1,f4,f5⟩
    ·have z:b=it:=by simpa using hb
     subst z
     exact⟨g3,g1,g4,g5⟩
   ·obtain⟨o,es,ep,ho,r⟩:=hm
    exact⟨o,es,ep,kk _ o (Ne.symm f1) (Ne.symm g1) ho,r⟩
  refine⟨.ref s.heap.objs.size,_,I2,rfl,⟨s.heap.objs.size,x,hn,rfl,fun ys hy=>(by rw[I.pO hy hq];exact hx),rfl⟩,⟨⟨_,by simpa using he₂⟩,hit₁.at fun o q=>(hs₂.2 it (Ne.symm hei)).trans q⟩,fun b hb=>?_⟩
  rcases List.mem_cons.mp hb with rfl | hb
  ·rw[bf (Nat.ne_of_lt hel)];exact f0
  ·have z:b=it:=by simpa using hb
   subst z
   obtain⟨o,ho,_⟩:=hit
   rw[bf (Nat.ne_of_lt (Heap.lt_size ho))];exact g0
 done:=by
  intro X hP hw hK hc i pins s σ H E I hf st hg
  subst hP hw hK
  obtain⟨xs,hq,hx⟩:=hg
  obtain⟨its,rv,p,hz⟩:=I.tuple hq
  have p':s.heap.IsTuple a its.toArray:=p
  obtain⟨⟨old,he⟩,hit⟩:=st
  obtain⟨g0,g1,g2,g3,g4,g5⟩:=hf it (by simp)
  have hl:=rv.length
  have hT:s.TypeIs (.ref e) "enumerate":=⟨_,he,rfl⟩
  unfold pyNext
  refine wpAny_bind (wpAny_attempt (wpAny_callSpecial?_slot (name:=Str.ofString "__next__") hT F.slot_enumerate_next (wpAny_call_entry F.slot_enumerate_next hT F.entry_enumerate_next ?_ (F.args_enumerate_next_1 _))))
  show wpAny _ _ (field (.ref e) 2 >>=_) _ _ _;refine wpAny_bind (wpAny_field he rfl (x:= .ref it) rfl ?_)
  refine wpAny_bind (jR (A:=X.A.in1) (I.ok.hd hc) hit p' (by simp;omega) fun h' x he' hx'=>?_)
  obtain⟨o,ho,hcl⟩:=hx'
  refine wpAny_bind (wpAny_isInstance (T:="StopIteration") (b:=true) ⟨o,ho,hcl⟩ isSubtype_stop ?_)
  exact wpAny_pure ⟨rfl,I.turned (t':=s.toks) (fun b o hb q=>he' b o hb q) g0 g1 g3 g4 g5⟩
 self:=fun A i s Q E st h=>let⟨⟨_,he⟩,_⟩:=st;wpAny_pyIter_enum he h
section
variable {X:Cx}
noncomputable def qC(f:FD):aw→R (List D):=fun δ=>(f δ).bind fun d=>match d with | .tup ds=> .ok (dO ds) | _=> .no
theorem uy{elts:List Expr}{k:Nat}{tpos:Pos}{a:Expr}{f:FD}{p pos:Pos}(h:QD X a f)(hg:Gl X "enumerate")(hm:X.mg "enumerate"=none)(hs:starEach [a] X.env=[(false,eval a X.env)]:=by rfl):vJ X (.Tuple elts k tpos) (.Call (.Name "enumerate" p) [a] [] pos) (qC f):=by
 refine⟨?_⟩
 intro pins s σ H RR I ⟨Z,B,δ,ds,E,hf,q⟩
 obtain⟨d,h1,h2⟩:=R.ak hf
 have hA:=eU h.1 g9 hs pos pins s σ H (fun vs H1=>aN H H1∧∃v,vs=[v]∧Rep X.K B H1 d v) I ⟨Z,B,δ,d,E,h1,fun v H1 s1 r1=>⟨s1,v,rfl,r1⟩⟩
 refine Call_ (jy I hg hm boot_enumerate (PyProof.Rows.callWith_type1 (dg hA fun us s1 ⟨vs,H1,I1,r1,ss,v,ev,rr⟩=>?_) hs rfl))
 subst ev
 obtain⟨u,rfl,ru⟩:=vals1 r1
 cases d with
 | tup es=>
   cases h2
   obtain⟨b,xs,rfl,l,rs⟩:=Rep.tup.mp rr
   cases ru
   obtain⟨its,rv,pt,hz⟩:=I1.tuple l.sq
   refine uz (items:=its.toArray) pt fun h' he hit kk=>wpAny_pyIter_enum he ?_
   have I2:Inv X pins σ H1 {s1 with heap:=h'}:=I1.kept (t':=s1.toks) kk
   refine⟨s1.heap.objs.size+1,[s1.heap.objs.size+1,s1.heap.objs.size],_,_,H1,rfl,I2,ub b (s1.heap.objs.size+1) s1.heap.objs.size (Nat.succ_ne_self _),⟨⟨_,he⟩,hit⟩,fun c hc=>?_,q _ H1 ss fun B' H' pr=>?_⟩
   ·have hle:s1.heap.objs.size≤c:=by
     rcases List.mem_cons.mp hc with z | hc
     ·rw[z];exact Nat.le_succ _
     ·have z:c=s1.heap.objs.size:=by simpa using hc
      rw[z];exact Nat.le_refl _
    exact I1.oV hle (I1.hok.fresh hle)
   ·have l':qB X.K B' H' b xs:=l.elim (fun z=> .inl ⟨(pr.rd z.2 z.1).2,(pr.rd z.2 z.1).1⟩) .inr
    have rs':=rs.bg pr
    refine⟨fun i d hd=>?_,⟨xs,l'.sq,by rw[←rs.length];unfold dO;simp⟩⟩
    unfold dO at hd
    rw[List.getElem?_map,List.getElem?_zipIdx] at hd
    cases e:es[i]? with
    | none=>rw [e] at hd;cases hd
    | some d0=>
      rw[e] at hd
      have hd:D.tup [.int ((0+i:Nat):Int),d0]=d:=Option.some.inj hd
      rw[Nat.zero_add] at hd
      obtain⟨x,hx,rx⟩:=rs'.get e
      refine⟨⟨xs,x,l'.sq,hx⟩,fun v H'' y hB'=>?_⟩
      obtain⟨p,y,hp,rfl,hy,rfl⟩:=y
      refine⟨a0 hp,?_⟩
      subst hd
      have hy2:=hy xs l'.sq
      rw[hx] at hy2
      cases hy2
      refine Rep.tup.mpr ⟨p,_,rfl, .inl ⟨fun ha=>?_, .inl bc⟩,aC.cons (Rep.int.mpr rfl) (aC.cons (rx.same (a0 hp)) aC.nil)⟩
      obtain⟨o,ho⟩:=hB' p ha
      rw[hp] at ho;cases ho
 | _=>cases h2
end
end L2
end
section
set_option maxRecDepth 100000
set_option maxHeartbeats 4000000
namespace L2
open PySem PySem.Spec PyProof.Rows
section
variable {X:Cx}
theorem yO:jD X (binaryOp .FloorDiv) (rI (fun _ j=>0 < j∧j.natAbs.log2 < 9000) fun i j=> .int (i / j)):=D7 fun i j _ _ _ _ _ hc q=>by
 have h1:(0:Int) < j:=hc.1
 exact floordiv_int (by omega) (by rw[Int.fdiv_eq_ediv_of_nonneg i (by omega)];exact q) (.inl (PyProof.noPylong_of_log2 hc.2))
noncomputable abbrev pZ:D→D→R D:=qi (fun _ j=>decide (0 < j∧j.natAbs.log2 < 9000)) fun i j=>i / j
theorem uB:iM X (binaryOp .FloorDiv) pZ:=rV yO fun i j h=>(of_decide_eq_true h:0 < j∧j.natAbs.log2 < 9000)
theorem sx{K:PySem.W.Frag}{B:List Addr}{H:Hp}{ds:List D}{xs:List V}(r:aC K B H ds xs):∀n:Nat,aC K B H (List.replicate n ds).flatten (List.replicate n xs).flatten
 | 0=>aC.nil
 | n+1=>by rw[List.replicate_succ,List.replicate_succ,List.flatten_cons,List.flatten_cons];exact r.append (sx r n)
noncomputable def AQ(f:aw→R (List D))(g:FD):aw→R (List D):=fun δ=>(f δ).bind fun ds=>(g δ).bind fun d=>match d with
 | .int k=>R.bF (decide (0≤k∧k < 1000000∧ds.length*k.toNat≤sizeLine)) (.ok (List.replicate k.toNat ds).flatten)
 | _=> .no
theorem Bs{a b:Expr}{f:aw→R (List D)}{g:FD}{pos:Pos}(ha:QN X a f)(hb:QD X b g):QN X (.BinOp a .Mult b pos) (AQ f g):=by
 refine⟨(vq Dl ha.1 hb.1).imp fun σ H Q ⟨Z,B,δ,es,E,hf,q⟩=>?_⟩
 obtain⟨ds,h1,h2⟩:=R.ak hf
 obtain⟨d,h3,h4⟩:=R.ak h2
 split at h4
 ·rename_i k
  obtain⟨h5,h6⟩:=R.ba h4
  cases h6
  obtain⟨k0,k1,k2⟩:=of_decide_eq_true h5
  refine⟨Z,B,δ,ds,E,h1,fun a xs H1 s1 n1 e1 r1=>⟨Z,B,δ, .int k,E.same s1,h3,fun v H2 s2 r2=>⟨a,k,xs,rfl,Rep.int.mp r2,s2 a _ e1,by omega,by omega,by rw[←r1.length];exact k2,fun p hp=>?_⟩⟩⟩
  refine q p _ _ (s1.trans (s2.trans (a0 hp))) ((s1.trans s2).free hp) bc ?_
  refine(sx r1 k.toNat).bg fun b o e nb=>⟨(s2.trans (a0 hp)) b o e,fun hm=>?_⟩
  rcases List.mem_cons.mp hm with z | z
  ·rw[z] at e;rw [s2 p _ e] at hp;cases hp
  ·exact nb (List.mem_cons_of_mem _ z)
 ·cases h4
noncomputable def Es(ns:List Int):List Int:=ns.mergeSort fun a b=>decide (a≤b)
noncomputable def F6:List D→R D
 | [.lst ds]=>(match ints? ds with | some ns=>R.bF (decide (ns.length < 64)) (.ok (.lst ((Es ns).map .int))) | none=> .no)
 | _=> .no
theorem getD_in{l:List Int}{i:Nat}(h:i < l.length):l.getD i 0∈l:=by
 have e:l.getD i 0=l[i]:=by simp [h]
 rw[e];exact List.getElem_mem h
theorem fold_min:∀(ns:List Int) (n:Int),ns.foldl min n∈n ::ns∧∀a∈n ::ns,ns.foldl min n≤a
 | [],n=>⟨by simp,fun a ha=>by simp at ha;subst ha;exact Int.le_refl _⟩
 | x ::ns,n=>by
   obtain⟨h1,h2⟩:=fold_min ns (min n x)
   rw[List.foldl_cons]
   refine⟨?_,fun a ha=>?_⟩
   ·rcases List.mem_cons.mp h1 with z | z
    ·rw[z];by_cases hc:n≤x
     ·rw[Int.min_eq_left hc];simp
     ·rw[Int.min_eq_right (by omega)];simp
    ·exact List.mem_cons_of_mem _ (List.mem_cons_of_mem _ z)
   ·have hm:=h2 _ List.mem_cons_self
    rcases List.mem_cons.mp ha with z | z
    ·subst z;omega
    ·rcases List.mem_cons.mp z with z | z
     ·subst z;omega
     ·exact h2 a (List.mem_cons_of_mem _ z)
noncomputable def sd:List D→R D
 | [.lst ds]=>(match ints? ds with | some (n ::ns)=> .ok (.int (ns.foldl min n)) | _=> .no)
 | ds=>m7 ds
noncomputable def Hw:List D→R D
 | [.lst ds]=>(match ints? ds with | some (n ::ns)=> .ok (.int (ns.foldl max n)) | _=> .no)
 | ds=>Gg ds
theorem D5(hc:X.calm=true):cL X (.builtin "min") sd:=by
 intro pins s σ H B ds d xs us I hb rx rs hg
 unfold sd at hg
 split at hg
 ·split at hg
  ·rename_i es n ns e
   cases hg
   obtain⟨x,rfl,r⟩:=rs.one
   obtain⟨a,ys,rfl,l,r⟩:=Rep.lst.mp r
   obtain⟨u,rfl,ru⟩:=vals1 rx
   cases ru
   obtain⟨its,k,rv,e1,hz⟩:=I.BS l
   rw[fJ r e] at rv
   obtain⟨ps,rfl,hps⟩:=g_ rv
   have hl:s.heap.IsList a (intItems ps.toArray):=⟨_,e1,rfl,k,by simp [intItems]⟩
   have hlp:ps.length=ns.length+1:=by have:=congrArg List.length hps;simpa using this
   refine min_intList (I.ok.hd hc) hl (by simp;omega) fun v h' tk hv hk=>?_
   obtain⟨t,rfl⟩:=intItems_at hv
   obtain⟨b1,b2⟩:=argBest_lt (numAt ps.toArray) (ps.toArray.size - 1)
   refine⟨.int _,H,I.kept hk,⟨t,rfl⟩,aN.refl H,Rep.int.mpr ?_⟩
   obtain⟨m1,m2⟩:=fold_min ns n
   have hge:∀j,j < ps.length→numAt ps.toArray j=(n ::ns).getD j 0:=fun j hj=>by rw[numAt_eq,←hps]
   have hin:numAt ps.toArray (argBest (fun i j=>decide (numAt ps.toArray i < numAt ps.toArray j)) (ps.toArray.size - 1))∈n ::ns:=by
    rw[hge _ (by simp at b1 ⊢;omega)];exact getD_in (by simp at b1 ⊢;omega)
   have hle:=m2 _ hin
   obtain⟨j,hj,ej⟩:=List.getElem_of_mem m1
   have hj':j < ns.length+1:=by simpa using hj
   have h3:=b2 j (by simp;omega)
   rw[hge j (by omega)] at h3
   have h4:(n ::ns).getD j 0=ns.foldl min n:=by rw[←ej,List.getD_eq_getElem?_getD,List.getElem?_eq_getElem hj];rfl
   rw[h4] at h3
   congr 1
   omega
  ·cases hg
 ·exact Et hc pins s σ H B _ d xs us I hb rx rs hg
end
end L2
namespace L3
open PySem PySem.Spec PyProof.Rows L2
noncomputable def t9(S:aJ):V3→Option (List D)
 | .d (.lst ds)=>some ds
 | .loc k=>cg S k
 | _=>none
theorem zg{K:PySem.W.Frag}{cl:Nat→Addr}{ρ:P3}{H:Hp}{S:aJ}{v:V3}{x:V}{ds:List D}(w:SW K cl ρ H S)(h:t9 S v=some ds)(r:aW K ρ H v x):∃a xs,x= .ref a∧m5 K [] H a xs∧aC K ρ.b H ds xs:=by
 unfold t9 at h
 split at h
 ·cases h
  unfold aW Rep at r
  obtain⟨a,xs,e,l,rs⟩:=r
  exact⟨a,xs,e,l.bg (fun b o e _=>⟨e,by simp⟩),rs⟩
 ·unfold aW at r
  obtain⟨a,a1,rfl⟩:=r
  obtain⟨xs,e,rs⟩:=w.ob _ a _ a1 (cZ h)
  exact⟨a,xs,rfl, .inl ⟨by simp, .inl e⟩,rs⟩
 ·cases h
section
variable {X:Cx} {cl:Nat→Addr}
noncomputable def Bv(fa fb:FX):FX:=fun δ S=>(fa δ S).bind fun a S1=>(fb δ S1).bind fun b S2=>match t9 S2 a,t9 S2 b with
 | some ds,some es=>R3.bF (decide (ds.length+es.length≤sizeLine)) (.ok (.loc S2.length) (S2++[.lst (ds++es)]))
 | _,_=> .no
theorem yq{a b:Expr}{fa fb:FX}{pos:Pos}(ha:PX X cl a fa)(hb:PX X cl b fb):PX X cl (.BinOp a .Add b pos) (Bv fa fb):=⟨(vq u0 ha.1 hb.1).imp fun σ H Q ⟨ρ,S,δ,v,S',E,hf,q⟩=>by
 obtain⟨a,S1,h1,h2⟩:=R3.ak hf
 obtain⟨b,S2,h3,h4⟩:=R3.ak h2
 split at h4
 ·rename_i ds es e1 e2'
  obtain⟨hl,h5⟩:=R3.ba h4
  cases h5
  refine⟨ρ,S,δ,a,S1,E,h1,fun u1 ρ1 H1 p1 w1 r1=>⟨ρ1,S1,δ,b,S2,E.to p1 w1,h3,fun u2 ρ2 H2 p2 w2 r2=>?_⟩⟩
  obtain⟨la,xs,rfl,l1,rs1⟩:=zg w2 e1 (r1.pre p2)
  obtain⟨lb,ys,rfl,l2,rs2⟩:=zg w2 e2' r2
  refine⟨[],la,lb,xs,ys,rfl,rfl,l1,l2,by rw[←rs1.length,←rs2.length];exact of_decide_eq_true hl,fun p hp=>?_⟩
  obtain⟨w3,p3⟩:=w2.new (a:=p) (o:= .lst (ds++es)) (a0 (o:= .lst (xs++ys)) hp) hp ⟨xs++ys,bc,(rs1.append rs2).bg (fun b o e nb=>⟨by rw[bf (bK e hp)];exact e,fun hb=>by
   rcases P3.mem_push hb with z | z
   ·exact nb z
   ·exact bK e hp z⟩)⟩
  exact q _ _ _ (p1.trans (p2.trans p3)) w3 (by unfold aW;exact⟨p,by show(ρ2.r++[p])[_]? =_;rw [←w2.len,List.getElem?_append_right (Nat.le_refl _),Nat.sub_self];rfl,rfl⟩)
 ·cases h4⟩
theorem BW{fa fb:FX}{δ:DE}{S:aJ}{Q:V3→aJ→Prop}(h:W3 (fa δ S) fun a S1=>W3 (fb δ S1) fun b S2=>∃ds es,t9 S2 a=some ds∧t9 S2 b=some es∧ds.length+es.length≤sizeLine∧Q (.loc S2.length) (S2++[.lst (ds++es)])):W3 (Bv fa fb δ S) Q:=
 W3.bind (h.mono fun _ _ h=>W3.bind (h.mono fun _ _ ⟨ds,es,e1,e2',hl,q⟩=>by
  simp only[e1,e2']
  exact W3.wh (decide_eq_true hl) (W3.ok q)))
noncomputable def Jk(i:Nat):FZ:=fun δ S=>match fu δ i with
 | none=> .no
 | some k=>(match cg S k with | some _=> .ok (.nx δ) (S.set k (.lst [])) | none=> .no)
end
end L3
end
section
set_option maxRecDepth 100000
set_option maxHeartbeats 4000000
namespace L3
open PySem PySem.Spec PyProof.Rows L2
noncomputable def jo(S:aJ)(c k:Nat):Option (List (Str × V3)):=match S[k]? with | some (.ins c' fs)=>(if c'=c then some fs else none) | _=>none
theorem iS{S:aJ}{c k:Nat}{fs:List (Str × V3)}(h:jo S c k=some fs):S[k]? =some (.ins c fs):=by
 unfold jo at h
 split at h
 ·rename_i c' fs' e
  split at h
  ·rename_i hc;cases h;rw [e,hc]
  ·cases h
 ·cases h
theorem vp{K:PySem.W.Frag}{ρ:P3}{H:Hp}{f:Str}{v:V3}:∀{fs:List (Str × V3)} {ys:List (Str × V)},ys.map (·.1)=fs.map (·.1)→aA K ρ H (fs.map (·.2)) (ys.map (·.2))→fs.lookup f=some v→∃x,ys.lookup f=some x∧aW K ρ H v x
 | [],ys,_,_,h=>by simp at h
 | (g,w) ::fs,[],e,_,_=>by simp at e
 | (g,w) ::fs,(g',y) ::ys,e,r,h=>by
   obtain⟨e1,e2'⟩:=List.cons.inj e
   have e1:g'=g:=e1
   subst e1
   obtain⟨x,xs,ex,r1,r2⟩:=r.bU
   cases ex
   rw[List.lookup_cons] at h ⊢
   cases hq:f==g' with
   | true=>rw [hq] at h;cases h;exact⟨y,rfl,r1⟩
   | false=>rw [hq] at h;exact vp e2' r2 h
theorem rq{f:Str}:∀{fs:List (Str × V3)} {ys:List (Str × V)},ys.map (·.1)=fs.map (·.1)→fs.lookup f=none→ys.lookup f=none
 | [],[],_,_=>rfl
 | [],_ ::_,e,_=>by simp at e
 | _ ::_,[],e,_=>by simp at e
 | (g,w) ::fs,(g',y) ::ys,e,h=>by
   obtain⟨e1,e2'⟩:=List.cons.inj e
   have e1:g'=g:=e1
   subst e1
   rw[List.lookup_cons] at h ⊢
   cases hq:f==g' with
   | true=>rw [hq] at h;cases h
   | false=>rw [hq] at h;exact rq e2' h
noncomputable def sL(f:Str)(v:V3):List (Str × V3)→List (Str × V3)
 | []=>[(f,v)]
 | (g,x) ::r=>if g=f then(g,v) ::r else(g,x) ::sL f v r
theorem vG{K:PySem.W.Frag}{ρ:P3}{H:Hp}{f:Str}{v:V3}{u:V}(rv:aW K ρ H v u):∀{fs:List (Str × V3)} {ys:List (Str × V)},ys.map (·.1)=fs.map (·.1)→aA K ρ H (fs.map (·.2)) (ys.map (·.2))→
 (g8 f u ys).map (·.1)=(sL f v fs).map (·.1)∧aA K ρ H ((sL f v fs).map (·.2)) ((g8 f u ys).map (·.2))
 | [],[],_,_=>⟨rfl,aA.cons rv aA.nil⟩
 | [],_ ::_,e,_=>by simp at e
 | _ ::_,[],e,_=>by simp at e
 | (g,w) ::fs,(g',y) ::ys,e,r=>by
   obtain⟨e1,e2'⟩:=List.cons.inj e
   have e1:g'=g:=e1
   subst e1
   obtain⟨x,xs,ex,r1,r2⟩:=r.bU
   cases ex
   unfold sL g8
   by_cases hg:g'=f
   ·rw[if_pos hg,if_pos hg]
    exact⟨by rw[List.map_cons,List.map_cons,e2'],aA.cons rv r2⟩
   ·rw[if_neg hg,if_neg hg]
    obtain⟨h1,h2⟩:=vG rv e2' r2
    exact⟨by rw[List.map_cons,List.map_cons,h1],aA.cons r1 h2⟩
section
variable {X:Cx} {cl:Nat→Addr}
noncomputable def qu(c:Nat)(f:Str)(g:FX):FX:=fun δ S=>(g δ S).bind fun v S1=>match v with
 | .loc k=>(match jo S1 c k with | some fs=>(match fs.lookup f with | some v=> .ok v S1 | none=> .no) | none=> .no)
 | _=> .no
theorem kx{c:Nat}{e:Expr}{f:Str}{g:FX}{pos:Pos}(hC:sV X.K (cl c))(hn:dM X.K (cl c) f)(he:PX X cl e g)(hb:attributeBase e f X.env (eval e X.env)=eval e X.env:=by rfl):PX X cl (.Attribute e f pos) (qu c f g):=⟨(Cc he.1 hb).imp fun σ H Q ⟨ρ,S,δ,v,S',E,hf,q⟩=>by
 obtain⟨o,S1,h1,h2⟩:=R3.ak hf
 split at h2
 ·rename_i k
  split at h2
  ·rename_i fs e1
   split at h2
   ·rename_i w e2'
    cases h2
    refine⟨ρ,S,δ, .loc k,_,E,h1,fun u ρ1 H1 p1 w1 r1=>?_⟩
    unfold aW at r1
    obtain⟨a,a1,rfl⟩:=r1
    obtain⟨dx,ys,ey,ek,rs⟩:=w1.ob k a _ a1 (iS e1)
    obtain⟨x,hx,rx⟩:=vp ek rs e2'
    exact⟨a,cl c,dx,ys,x,rfl,ey,hC,hn,hx,q x ρ1 H1 p1 w1 rx⟩
   ·cases h2
  ·cases h2
 ·cases h2⟩
theorem w_fld{c k:Nat}{f:Str}{g:FX}{δ:DE}{S:aJ}{Q:V3→aJ→Prop}(h:W3 (g δ S) fun v S1=>∃fs w,v= .loc k∧S1[k]? =some (.ins c fs)∧fs.lookup f=some w∧Q w S1):W3 (qu c f g δ S) Q:=
 W3.bind (h.mono fun v S1 ⟨fs,w,e1,e2',e3,q⟩=>by
  subst e1
  have e4:jo S1 c k=some fs:=by unfold jo;simp only[e2',if_true]
  simp only[e4,e3]
  exact W3.ok q)
noncomputable def fT(P:Program)(w:World)(K:PySem.W.Frag)(mg:Str→Option Value)(base:Heap)(cl:Nat→Addr)(k c:Nat)(m:Str)(n:Nat)(g:List V3→aJ→R3 V3):Prop:=
 ∃(f:Addr) (fd:FuncData) (ps:List Str),sV K (cl c)∧Meth K (cl c) m f∧gC P w K mg base pP k f fd ps (yB K cl (n+1) g)∧Binds K fd ps []
noncomputable def o8(c:Nat)(m:Str)(g:List V3→aJ→R3 V3)(fo:FX)(fs:FA):FX:=fun δ S=>(fo δ S).bind fun o S1=>match o with
 | .loc k=>(match jo S1 c k with | some ys=>(match ys.lookup m with | none=>(fs δ S1).bind fun vs S2=>g (.loc k ::vs) S2 | some _=> .no) | none=> .no)
 | _=> .no
theorem mV{g:List V3→aJ→R3 V3}{k j n c:Nat}{m:Str}{o e:Expr}{es:List Expr}{fo:FX}{fs:FA}{apos pos:Pos}{pl:Sem Bool}(M:fT X.prog X.w X.K X.mg X.base cl k c m n g)(hr:dG j X.A)(hkj:k≤j)(ho:PX X cl o fo)(ha:zZ X cl (e ::es) fs)(hn:∀δ S ds S',fs δ S= .ok ds S'→ds.length=n)
 (hst:starEach (e ::es) X.env=(false,eval e X.env) ::starEach es X.env:=by rfl) (hpl:(backTo pos (starEach es X.env)).any (·.1)=false:=by rfl)
 (ht:eval (.Call (.Attribute o m apos) (e ::es) [] pos) X.env=(do
   let ov ←eval o X.env
   standAt apos.atName
   let(f,first) ←holding [ov] (getMethod ov m pl)
   callWith pos f first (backTo pos (starEach (e ::es) X.env)) (backToKw pos (keywordEach [] X.env))):=by rfl) :
 PX X cl (.Call (.Attribute o m apos) (e ::es) [] pos) (o8 c m g fo fs):=by
 obtain⟨f,fd,ps,hC,hm,F,hb⟩:=M
 refine⟨(AM ho.1 hC hm F (hr.mono hkj) hb .nil sJ ha.1 hst hpl ht).imp fun σ H Q ⟨ρ,S,δ,v,S',E,hf,q⟩=>?_⟩
 obtain⟨ov,S1,h1,h2⟩:=R3.ak hf
 split at h2
 ·rename_i kk
  split at h2
  ·rename_i ys e1
   split at h2
   ·rename_i e2'
    obtain⟨vs,S2,h3,h4⟩:=R3.ak h2
    refine⟨ρ,S,δ, .loc kk,S1,E,h1,fun u ρ1 H1 p1 w1 r1=>?_⟩
    have r1':=r1
    unfold aW at r1
    obtain⟨a,a1,rfl⟩:=r1
    obtain⟨dx,zs,ey,ek,rs⟩:=w1.ob kk a _ a1 (iS e1)
    refine⟨a,dx,zs,rfl,ey,rq ek e2',ρ1,S1,δ,vs,S2,E.to p1 w1,h3,fun us ρ2 H2 p2 w2 r2=>?_⟩
    show yB X.K cl (n+1) g (V.ref a ::(us++[])) H2 Q E0
    rw[List.append_nil]
    exact⟨by rw[List.length_cons,←r2.length,hn δ S1 vs S2 h3],ρ2,S2, .loc kk ::vs,v,S',w2,aA.cons (r1'.pre p2) r2,h4,fun z ρ3 H3 p3 w3 r3=>q z ρ3 H3 (p1.trans (p2.trans p3)) w3 r3⟩
   ·cases h2
  ·cases h2
 ·cases h2
noncomputable def rO(P:Program)(w:World)(K:PySem.W.Frag)(mg:Str→Option Value)(base:Heap)(cl:Nat→Addr)(k c:Nat)(x:Str)(n:Nat)(g:List V3→aJ→R3 V3):Prop:=
 ∃(f:Addr) (fd:FuncData) (ps:List Str),Mk K (cl c) f∧gC P w K mg base pP k f fd ps (yB K cl (n+1) g)∧mg x=some (.ref (cl c))∧Binds K fd ps []
noncomputable def vR(c:Nat)(g:List V3→aJ→R3 V3)(fs:FA):FX:=fun δ S=>(fs δ S).bind fun vs S1=>(g (.loc S1.length ::vs) (S1++[.ins c []])).bind fun v S2=>match v with
 | .d .cD=> .ok (.loc S1.length) S2
 | _=> .no
theorem vL{g:List V3→aJ→R3 V3}{k j n c:Nat}{x:Str}{p pos:Pos}{e:Expr}{es:List Expr}{fs:FA}(M:rO X.prog X.w X.K X.mg X.base cl k c x n g)(hr:dG j X.A)(hkj:k+1≤j)(hg:Gl X x)(ha:zZ X cl (e ::es) fs)(hn:∀δ S ds S',fs δ S= .ok ds S'→ds.length=n)
 (hdb:(x==("__debug__":Str))=false:=by decide) (he:starEach (e ::es) X.env=(false,eval e X.env) ::starEach es X.env:=by rfl) (hpl:(backTo pos (starEach es X.env)).any (·.1)=false:=by rfl) :
 PX X cl (.Call (.Name x p) (e ::es) [] pos) (vR c g fs):=by
 obtain⟨f,fd,ps,M,F,hm,hb⟩:=M
 refine⟨(Bg M F (hr.mono hkj) hg hm hb .nil sJ ha.1 hdb he hpl).imp fun σ H Q ⟨ρ,S,δ,v,S',E,hf,q⟩=>?_⟩
 obtain⟨vs,S1,h1,h2⟩:=R3.ak hf
 obtain⟨v0,S2,h3,h4⟩:=R3.ak h2
 split at h4
 ·cases h4
  refine⟨ρ,S,δ,vs,S1,E,h1,fun us ρ1 H1 p1 w1 r1 xa dx hx hdx hne=>?_⟩
  have hx1:upd H1 dx (.own xa) xa=none:=by rw[bf (fun z=>hne z.symm)];exact hx
  have sm:aN H1 (upd (upd H1 dx (.own xa)) xa (.ins (cl c) dx [])):=(a0 hdx).trans (a0 hx1)
  obtain⟨w2,p2⟩:=w1.new (a:=xa) (o:= .ins c []) sm hx ⟨dx,[],bc,rfl,aA.nil⟩
  show yB X.K cl (n+1) g (V.ref xa ::(us++[])) _ _ E0
  rw[List.append_nil]
  have rl:aW X.K (ρ1.push xa) (upd (upd H1 dx (.own xa)) xa (.ins (cl c) dx [])) (.loc S1.length) (.ref xa):=by
   unfold aW
   exact⟨xa,by show(ρ1.r++[xa])[_]? =_;rw [←w1.len,List.getElem?_append_right (Nat.le_refl _),Nat.sub_self];rfl,rfl⟩
  exact⟨by rw[List.length_cons,←r1.length,hn δ S vs S1 h1],_,_, .loc S1.length ::vs, .d .cD,_,w2,aA.cons rl (r1.pre p2),h3,fun z ρ3 H3 p3 w3 r3=>⟨by unfold aW Rep at r3;exact r3,q _ ρ3 H3 (p1.trans (p2.trans p3)) w3 (rl.pre p3)⟩⟩
 ·cases h4
noncomputable def wm(c:Nat)(f:Str)(fo fe:FX):FZ:=fun δ S=>(fe δ S).bind fun v S1=>(fo δ S1).bind fun o S2=>match o with
 | .loc k=>(match jo S2 c k with | some fs=>R3.bF (decide (fs.length < 1000)) (.ok (.nx δ) (S2.set k (.ins c (sL f v fs)))) | none=> .no)
 | _=> .no
theorem qr{c:Nat}{o value:Expr}{f:Str}{fo fe:FX}{pos pos':Pos}(hC:sV X.K (cl c))(hn:dM X.K (cl c) f)(ho:PX X cl o fo)(he:PX X cl value fe)(hs:swapsWith value (some (.Attribute o f pos')) pos.line X.env=pure false:=by rfl) :
 PZ X cl (.Assign [.Attribute o f pos'] value pos) (wm c f fo fe):=⟨(CN ho.1 he.1 hs).imp fun D σ H ⟨ρ,S,δ,ou,S',E,hf,q⟩=>by
 obtain⟨v,S1,h1,h2⟩:=R3.ak hf
 obtain⟨vo,S2,h3,h4⟩:=R3.ak h2
 split at h4
 ·rename_i k
  split at h4
  ·rename_i fs e1
   obtain⟨hl,h5⟩:=R3.ba h4
   cases h5
   refine⟨ρ,S,δ,v,S1,E,h1,fun u ρ1 H1 p1 w1 r1=>⟨ρ1,S1,δ, .loc k,S2,E.to p1 w1,h3,fun u2 ρ2 H2 p2 w2 r2=>?_⟩⟩
   unfold aW at r2
   obtain⟨a,a1,rfl⟩:=r2
   obtain⟨dx,ys,ey,ek,rs⟩:=w2.ob k a _ a1 (iS e1)
   have hlen:ys.length=fs.length:=by have:=congrArg List.length ek;simpa using this
   obtain⟨k1,k2⟩:=vG (f:=f) (r1.pre p2) ek rs
   obtain⟨w3,p3⟩:=w2.put (o:= .ins c (sL f v fs)) (u:= .ins (cl c) dx (g8 f u ys)) a1 (w2.fz k a a1 (by rw[iS e1];intro h;cases h)) ⟨dx,_,rfl,k1,k2⟩
   exact⟨a,cl c,dx,ys,rfl,ey,hC,hn,by rw[hlen];exact of_decide_eq_true hl,q σ ρ2 _ (p1.trans (p2.trans p3)) (E.to (p1.trans (p2.trans p3)) w3)⟩
  ·cases h4
 ·cases h4⟩
theorem kZ{c k:Nat}{f:Str}{fo fe:FX}{δ:DE}{S:aJ}{QO:Ou→aJ→Prop}(h:W3 (fe δ S) fun v S1=>W3 (fo δ S1) fun o S2=>∃fs,o= .loc k∧S2[k]? =some (.ins c fs)∧fs.length < 1000∧QO (.nx δ) (S2.set k (.ins c (sL f v fs)))):W3 (wm c f fo fe δ S) QO:=
 W3.bind (h.mono fun v S1 h=>W3.bind (h.mono fun o S2 ⟨fs,e1,e2',hl,q⟩=>by
  subst e1
  have e4:jo S2 c k=some fs:=by unfold jo;simp only[e2',if_true]
  simp only[e4]
  exact W3.wh (decide_eq_true hl) (W3.ok q)))
theorem qz{c k:Nat}{m:Str}{g:List V3→aJ→R3 V3}{fo:FX}{fs:FA}{δ:DE}{S:aJ}{Q:V3→aJ→Prop}(h:W3 (fo δ S) fun o S1=>∃ys,o= .loc k∧S1[k]? =some (.ins c ys)∧ys.lookup m=none∧W3 (fs δ S1) fun vs S2=>W3 (g (.loc k ::vs) S2) Q):W3 (o8 c m g fo fs δ S) Q:=
 W3.bind (h.mono fun o S1 ⟨ys,e1,e2',e3,h⟩=>by
  subst e1
  have e4:jo S1 c k=some ys:=by unfold jo;simp only[e2',if_true]
  simp only[e4,e3]
  exact W3.bind h)
theorem yV{c:Nat}{g:List V3→aJ→R3 V3}{fs:FA}{δ:DE}{S:aJ}{Q:V3→aJ→Prop}(h:W3 (fs δ S) fun vs S1=>W3 (g (.loc S1.length ::vs) (S1++[.ins c []])) fun v S2=>v= .d .cD∧Q (.loc S1.length) S2):W3 (vR c g fs δ S) Q:=
 W3.bind (h.mono fun vs S1 h=>W3.bind (h.mono fun v S2 ⟨e,q⟩=>by subst e;exact W3.ok q))
end
end L3
end
section
set_option maxRecDepth 100000
set_option maxHeartbeats 4000000
namespace PySem
open Sem (wp)
noncomputable def Jb(t:Bool)(h:Heap)(i l:Addr)(k:Nat):Prop:=cond t (h.IsTupleIter i l k) (h.IsListIter i l k)
noncomputable def II(t:Bool)(h:Heap)(l:Addr)(xs:Array Value):Prop:=cond t (h.IsTuple l xs) (h.IsList l xs)
noncomputable def xQ(t:Bool):String:=cond t "tuple_iterator" "list_iterator"
section
variable {prog:Program} {w:World} {A:Around} {E:Value→Shared→Prop} {s:Shared}
end
noncomputable abbrev Hn(t:Bool)(h:Heap)(l1:Addr):Heap:=h.push {cls:= .type (xQ t),data:= .fields #[.ref l1, .int 0 0]}
noncomputable abbrev HM(t u:Bool)(h:Heap)(l1 l2:Addr):Heap:=(Hn t h l1).push {cls:= .type (xQ u),data:= .fields #[.ref l2, .int 0 0]}
noncomputable abbrev Hq(t u:Bool)(h:Heap)(l1 l2:Addr):Heap:=(HM t u h l1 l2).push {cls:= .type "tuple",data:= .seq #[.ref h.objs.size, .ref (Hn t h l1).objs.size]}
noncomputable abbrev HX(t u:Bool)(h:Heap)(l1 l2:Addr):Heap:=(Hq t u h l1 l2).push {cls:= .type "tuple",data:= .seq #[.none, .none]}
noncomputable abbrev JD(t u:Bool)(h:Heap)(l1 l2:Addr):Heap:=(HX t u h l1 l2).push {cls:= .type "zip",data:= .fields #[.none, .bool false, .bool false, .ref (HM t u h l1 l2).objs.size, .ref (Hq t u h l1 l2).objs.size]}
end PySem
namespace L2
open PySem PySem.Spec PyProof.Rows
noncomputable def Eg(t:Bool)(K:PySem.W.Frag)(H:Hp)(a:Addr)(xs:List V):Prop:=cond t (mz K H a xs) (k3 K H a xs)
noncomputable def JB(K:PySem.W.Frag)(t u:Bool)(a b:Addr):It:=
 ⟨fun i H=>∃xs ys x y,Eg t K H a xs∧Eg u K H b ys∧xs[i]? =some x∧ys[i]? =some y,
  fun i H v H'=>∃p x y,H p=none∧v= .ref p∧(∀xs,Eg t K H a xs→xs[i]? =some x)∧(∀ys,Eg u K H b ys→ys[i]? =some y)∧H'=upd H p (.tup [x,y]),
  fun i H=>∃xs ys,Eg t K H a xs∧Eg u K H b ys∧(xs.length≤i∨ys.length≤i)⟩
section
variable {X:Cx}
noncomputable def ED(ds es:List D):List D:=(ds.zip es).map fun p=> .tup [p.1,p.2]
noncomputable def seqD?:D→Option (List D)
 | .lst ds=>some ds
 | .tup ds=>some ds
 | _=>none
noncomputable def He(f g:FD):aw→R (List D):=fun δ=>(f δ).bind fun d=>(g δ).bind fun e=>match seqD? d,seqD? e with | some ds,some es=> .ok (ED ds es) | _,_=> .no
noncomputable def HE(T U:String)(f:FD):FD:=fun δ=>(f δ).bind fun d=>match d with | .dct _ _=> .no | _=> .ok (.bl (kF (tyName d) T || kF (tyName d) U))
noncomputable def JC(lo:Int)(n:Nat):It:=⟨fun i _=>i < n,fun i H x H'=>H'=H∧x= .int (lo - i),fun i _=>n≤i⟩
noncomputable def Gh(lo:Int)(n:Nat):List D:=(List.range n).map fun(i:Nat)=>D.int (lo - i)
noncomputable def HB(f g h:FD):aw→R (List D):=fun δ=>(f δ).bind fun d=>(g δ).bind fun e=>(h δ).bind fun k=>match d,e,k with
 | .int i, .int j, .int m=>R.bF (decide (m= -1∧ -(2 ^ 60)≤i∧i < 2 ^ 60∧ -(2 ^ 60)≤j∧j < 2 ^ 60)) (.ok (Gh i (i - j).toNat)) | _,_,_=> .no
noncomputable def bls?:List D→Option (List Bool)
 | []=>some []
 | .bl b ::ds=>(bls? ds).map (b ::·)
 | _ ::_=>none
theorem q8{K:PySem.W.Frag}{B:List Addr}{H:Hp}:∀{ds:List D} {xs:List V} {bs:List Bool},aC K B H ds xs→bls? ds=some bs→xs=bs.map V.bl
 | [],xs,bs,r,h=>by unfold aC at r;subst r;cases h;rfl
 | d ::ds,xs,bs,r,h=>by
   obtain⟨x,q,rfl,r1,r2⟩:=r.bU
   cases d with
   | bl b=>
     have h:(bls? ds).map (b ::·)=some bs:=h
     cases e:bls? ds with
     | none=>rw [e] at h;cases h
     | some cs=>
       rw[e] at h
       cases h
       rw[Rep.bl.mp r1,q8 r2 e]
       rfl
   | _=>cases h
theorem uQ:∀bs:List Bool,bls? (bs.map D.bl)=some bs
 | []=>rfl
 | b ::bs=>by show(bls? (bs.map D.bl)).map (b ::·)=_;rw [uQ bs];rfl
theorem nA:∀{bs:List Bool} {us:List Value},Vals (bs.map V.bl) us→us=bs.map Value.bool
 | [],us,h=>by cases h;rfl
 | b ::bs,us,h=>by
   cases h with
   | cons r t=>rw [nA t,show _=Value.bool b from r];rfl
theorem range_all(bs:List Bool):(List.range bs.length).all (fun i=>bs.getD i false)=bs.all id:=by
 rw[Bool.eq_iff_iff]
 simp only[List.all_eq_true,List.mem_range,id]
 constructor
 ·intro h b hb
  obtain⟨i,hi,rfl⟩:=List.getElem_of_mem hb
  have:=h i hi
  rw[List.getD_eq_getElem?_getD,List.getElem?_eq_getElem hi] at this
  exact this
 ·intro h i hi
  rw[List.getD_eq_getElem?_getD,List.getElem?_eq_getElem hi]
  exact h _ (List.getElem_mem hi)
noncomputable def Dp:List D→R D
 | [.lst ds]=>(match bls? ds with | some bs=> .ok (.bl (bs.all id)) | none=> .no)
 | _=> .no
noncomputable def IP:List D→R D
 | [.lst ds]=>(match bls? ds with | some bs=> .ok (.bl (bs.any id)) | none=> .no)
 | _=> .no
theorem Fj{bs:List Bool}{i:Nat}{v:Value}(h:((bs.map Value.bool).toArray)[i]? =some v):v= .bool (bs.getD i false):=by
 rw[List.getElem?_toArray,List.getElem?_map] at h
 rw[List.getD_eq_getElem?_getD]
 cases e:bs[i]? with
 | none=>rw [e] at h;cases h
 | some b=>rw [e] at h;cases h;rfl
theorem Ex(hc:X.calm=true):cL X (.builtin "all") Dp:=by
 intro pins s σ H B ds d xs us I hb rx rs hg
 unfold Dp at hg
 split at hg
 ·split at hg
  ·rename_i es bs e
   cases hg
   obtain⟨x,rfl,r⟩:=rs.one
   obtain⟨a,ys,rfl,l,r⟩:=Rep.lst.mp r
   obtain⟨u,rfl,ru⟩:=vals1 rx
   cases ru
   obtain⟨its,n,rv,e1,hz⟩:=I.BS l
   rw[q8 r e] at rv
   obtain rfl:=nA rv
   have hl:s.heap.IsList a (bs.map Value.bool).toArray:=⟨_,e1,rfl,n,rfl⟩
   have hlt:a < s.heap.objs.size:=Heap.lt_size e1
   refine call_all_walk (wpAny_pyIter_list hl ?_)
   refine⟨_,_,_,_,_,_,fun i=>bs.getD i false,rfl,Walks.list (A:=X.A.in1) (I.ok.hd hc) _ a (Nat.ne_of_lt hlt) _,⟨⟨_,Heap.get?_push_size _ rfl,rfl,rfl⟩,hl.push _⟩,?_,fun h' tk hk=>?_⟩
   ·intro i v s Q E hP hQ
    rw[Fj hP]
    exact wpAny_truthy_bool hQ
   ·refine⟨.bl (bs.all id),H,I.kept (old_kept hk),?_,aN.refl H,Rep.bl.mpr rfl⟩
    show Value.bool _=Value.bool _
    rw[←range_all]
    simp
  ·cases hg
 ·cases hg
end
end L2
end
section
set_option maxRecDepth 100000
set_option maxHeartbeats 4000000
namespace L2
open PySem PySem.Spec PyProof.Rows
section
variable {X:Cx}
noncomputable def Jx:FS:=fun _=> .no
noncomputable def HL(f:FD):FS:=fun δ=>(f δ).bind fun _=> .ok (.nx δ)
end
end L2
namespace L3
open PySem PySem.Spec PyProof.Rows L2
section
variable {X:Cx} {cl:Nat→Addr}
noncomputable def Jy:FZ:=fun _ _=> .no
noncomputable def Hm(f:aw→R (List D)):FX:=fun δ S=>(R3.of (f (bz S δ)) S).bind fun ds S=>R3.bF (gZ ds) (.ok (.loc S.length) (S++[.lst ds]))
noncomputable def Ii(i:Nat)(f:FX):FZ:=fun δ S=>match fu δ i with
 | none=> .no
 | some k=>match cg S k with
   | none=> .no
   | some _=>(f δ S).bind fun v S1=>match v with
     | .d (.lst es)=>(match cg S1 k with
       | some ds=>R3.bF (decide (ds.length+es.length≤sizeLine)) (.ok (.nx δ) (S1.set k (.lst (ds++es))))
       | none=> .no)
     | _=> .no
end
end L3
end
section
set_option maxRecDepth 100000
set_option maxHeartbeats 4000000
namespace L2
open PySem PySem.Spec PyProof.Rows
section
variable {X:Cx}
theorem x8{prog:Program}{w:World}{A:Around}{E:Value→Shared→Prop}{s:Shared}{t b:Addr}{vs ws:List Value}{Q:Value→Shared→Prop}(ht:IsTup s.heap t vs.toArray)(hb:IsTup s.heap b ws.toArray)
 (h0:vs=[]→Q (.ref b) s) (h1:vs≠[]→ws=[]→Q (.ref t) s) (h2:vs≠[]→ws≠[]→Q (.ref s.heap.objs.size) {s with heap:=s.heap.push {cls:= .type "tuple",data:= .seq (vs++ws).toArray}})
 (hsz:vs.length+ws.length≤sizeLine):wpAny (model prog w) A (binaryOp .Add (.ref t) (.ref b)) Q E s:=by
 by_cases hv:vs=[]
 ·obtain⟨⟨cls,dd,data,sl⟩,ho,hc,n,hd⟩:=id ht;obtain⟨⟨cls2,dd2,data2,sl2⟩,ho2,hc2,n2,hd2⟩:=id hb
  simp only at hc hd hc2 hd2;subst hc hd hc2 hd2
  exact concat_meets ⟨_,ho,rfl⟩ ⟨_,ho2,rfl⟩ noFill_tuple_add seq_tuple_add PySem.F.slot_tuple_add PySem.F.entry_tuple_add (PySem.F.args_tuple_add_2 _ _) (tuple_addW0 t b vs.toArray ws.toArray n n2 dd dd2 sl sl2 (by simp [hv])) ⟨ho,ho2,h0 hv⟩
 ·exact HT.AN ht hb hv (h1 hv) (h2 hv) hsz
noncomputable def n_(d e:D):R D:=match d,e with
 | .tup a, .tup b=>R.bF (decide (a.length+b.length≤sizeLine)) (.ok (.tup (a++b)))
 | d,e=>dH d e
theorem qB.fresh{K:PySem.W.Frag}{B:List Addr}{H:Hp}{p:Addr}{xs:List V}(hb:∀a∈B,∃o,H a=some o)(hp:H p=none):qB K B (upd H p (.tup xs)) p xs:= .inl ⟨fun ha=>(by obtain⟨o,ho⟩:=hb p ha;rw [hp] at ho;cases ho), .inl bc⟩
theorem uc:iM X (binaryOp .Add) n_:=by
 intro pins s σ H B da db d x y v u I hb rx ry ra rb hg
 by_cases ht:∃a b,da= .tup a∧db= .tup b
 ·obtain⟨a,b,rfl,rfl⟩:=ht
  have hg:R.bF (decide (a.length+b.length≤sizeLine)) (.ok (.tup (a++b)))= .ok d:=hg
  obtain⟨h1,h2⟩:=R.ba hg
  cases h2
  have h1:=of_decide_eq_true h1
  have ra':=ra
  have rb':=rb
  obtain⟨a1,xs1,rfl,l1,r1⟩:=Rep.tup.mp ra
  obtain⟨a2,xs2,rfl,l2,r2⟩:=Rep.tup.mp rb
  cases rx
  cases ry
  obtain⟨its,rv1,p1,_⟩:=I.tuple l1.sq
  obtain⟨its2,rv2,p2,_⟩:=I.tuple l2.sq
  have e1:=rv1.length
  have e2:=rv2.length
  have e3:=r1.length
  have e4:=r2.length
  refine x8 p1 p2 (fun z=>⟨.ref a2,H,I,rfl,aN.refl H,?_⟩) (fun _ z=>⟨.ref a1,H,I,rfl,aN.refl H,?_⟩) (fun _ _=>?_) (by omega)
  ·obtain rfl:a=[]:=List.eq_nil_of_length_eq_zero (by rw[e3,e1,z];rfl)
   exact rb'
  ·obtain rfl:b=[]:=List.eq_nil_of_length_eq_zero (by rw[e4,e2,z];rfl)
   rw[List.append_nil];exact ra'
  ·have hp:H s.heap.objs.size=none:=I.hok.fresh (Nat.le_refl _)
   refine⟨.ref s.heap.objs.size,_,I.laid (t':=s.toks) (o:= .tup (xs1++xs2)) (fun b ob q=>Heap.get?_push_of_some _ q) (Nat.le_refl _) ⟨by rw[List.length_append];omega,_,rv1.append rv2,IsTup.new _ _⟩,rfl,a0 hp,Rep.tup.mpr ⟨_,_,rfl,qB.fresh hb hp,(r1.append r2).same (a0 hp)⟩⟩
 ·have hg:dH da db= .ok d:=by
   unfold n_ at hg
   split at hg
   ·exact absurd ⟨_,_,rfl,rfl⟩ ht
   ·exact hg
  exact ft pins s σ H B da db d x y v u I hb rx ry ra rb hg
theorem vJ.or{tg e:Expr}{F F1 F2:aw→R (List D)}(h1:vJ X tg e F1)(h2:vJ X tg e F2)(h:∀δ ds,F δ= .ok ds→F1 δ= .ok ds∨F2 δ= .ok ds):vJ X tg e F:=
 ⟨fun pins s σ H R I ⟨Z,B,δ,ds,E,hf,q⟩=>(h δ ds hf).elim (fun z=>h1.1 pins s σ H R I ⟨Z,B,δ,ds,E,z,q⟩) fun z=>h2.1 pins s σ H R I ⟨Z,B,δ,ds,E,z,q⟩⟩
noncomputable def vC(f:FD):aw→R (List D):=fun δ=>(f δ).bind fun d=>match d with | .lst ds=> .ok (dO ds) | .tup ds=> .ok (dO ds) | _=> .no
theorem tQ{elts:List Expr}{k:Nat}{tpos:Pos}{a:Expr}{f:FD}{p pos:Pos}(h:QD X a f)(hg:Gl X "enumerate")(hm:X.mg "enumerate"=none)(hs:starEach [a] X.env=[(false,eval a X.env)]:=by rfl):vJ X (.Tuple elts k tpos) (.Call (.Name "enumerate" p) [a] [] pos) (vC f):=
 vJ.or (F1:=nF f) (F2:=qC f) ⟨qX h.1 hg hm hs⟩ (uy h hg hm hs) fun δ ds hf=>by
  obtain⟨d,h1,h2⟩:=R.ak hf
  cases d with
  | lst es=>cases h2;exact .inl (by unfold nF;rw [h1];rfl)
  | tup es=>cases h2;exact .inr (by unfold qC;rw [h1];rfl)
  | _=>cases h2
noncomputable def IZ(K:PySem.W.Frag)(a:Addr)(n:Nat):It:=
 ⟨fun i H=>∃xs x,k3 K H a xs∧xs.length=n∧i < n∧xs[n - 1 - i]? =some x,fun i H v H'=>H'=H∧∀xs,k3 K H a xs→xs[n - 1 - i]? =some v,fun i H=>(∃xs,k3 K H a xs)∧i=n⟩
theorem yy{P:Program}{w:World}{K:PySem.W.Frag}{tg:Expr}(a it:Addr)(n:Nat):Turn P w K tg (IZ K a n) [it] it (fun i h=>h.IsRevIter it a ((n:Int) - 1 - (i:Int))) where
 mem:=by simp
 obj:=fun i h st b hb=>by
  have e:b=it:=by simpa using hb
  subst e
  obtain⟨o,e,c,d⟩:=st
  exact⟨o,e,fun v z=>by rw[d] at z;cases z⟩
 keep:=fun i h h' st k=>st.at fun o e=>k it (by simp) o e
 item:=by
  intro X hP hw hK hc i pins s σ H E I hf st hg
  subst hP hw hK
  obtain⟨xs,x,hq,hn,hi,hx⟩:=hg
  obtain⟨its,rv,p,hz⟩:=I.list hq
  obtain⟨u,hu,ru⟩:=rv.get hx
  obtain⟨f0,f1,f2,f3,f4,f5⟩:=hf it (by simp)
  have e0:(n:Int) - 1 - (i:Int)=((n - 1 - i:Nat):Int):=by omega
  rw[e0] at st
  refine wpAny_pyNext_rev_item st p.isList (x:=u) (by simpa using hu) fun h' st' sb=>?_
  have I1:Inv X pins σ H {s with heap:=h'}:=I.turned (t':=s.toks) (fun b o hb e=>(sb.2 b hb).trans e) f0 f1 f3 f4 f5
  have st2:h'.IsRevIter it a ((n:Int) - 1 - ((i+1:Nat):Int)):=by
   rw[show((n - 1 - i:Nat):Int) - 1=(n:Int) - 1 - ((i+1:Nat):Int) by omega] at st';exact st'
  obtain⟨o,e,c,d⟩:=id st2
  exact⟨u,rfl,vw (s:={s with heap:=h'}) e c d (by decide) ⟨x,H,I1,ru,⟨rfl,fun ys hy=>by rw[I.om hy hq];exact hx⟩,st2,fun b hb=>(hf b hb).1⟩⟩
 done:=by
  intro X hP hw hK hc i pins s σ H E I hf st hg
  subst hP hw hK
  obtain⟨_,rfl⟩:=hg
  obtain⟨f0,f1,f2,f3,f4,f5⟩:=hf it (by simp)
  rw[show(i:Int) - 1 - (i:Int)= -1 by omega] at st
  exact wpAny_pyNext_rev_end (I.ok.hd hc) st fun h' eb=>⟨rfl,I.turned (t':=s.toks) (fun b o hb e=>eb b o hb e) f0 f1 f3 f4 f5⟩
 self:=fun _ _ _ _ _ st h=>wpAny_pyIter_revIter st h
noncomputable def BN(f:FD):aw→R (List D):=fun δ=>(f δ).bind fun d=>match d with | .lst ds=> .ok ds.reverse | _=> .no
theorem xX{tg a:Expr}{f:FD}{p pos:Pos}(h:QD X a f)(hg:Gl X "reversed")(hm:X.mg "reversed"=none)(hs:starEach [a] X.env=[(false,eval a X.env)]:=by rfl):vJ X tg (.Call (.Name "reversed" p) [a] [] pos) (BN f):=by
 refine⟨?_⟩
 intro pins s σ H RR I ⟨Z,B,δ,ds,E,hf,q⟩
 obtain⟨d,h1,h2⟩:=R.ak hf
 have hA:=eU h.1 g9 hs pos pins s σ H (fun vs H1=>aN H H1∧∃v,vs=[v]∧Rep X.K B H1 d v) I ⟨Z,B,δ,d,E,h1,fun v H1 s1 r1=>⟨s1,v,rfl,r1⟩⟩
 refine Call_ (jy I hg hm boot_reversed (PyProof.Rows.callWith_type1 (dg hA fun us s1 ⟨vs,H1,I1,r1,ss,v,ev,rr⟩=>?_) hs rfl))
 subst ev
 obtain⟨u,rfl,ru⟩:=vals1 r1
 cases d with
 | lst es=>
   cases h2
   obtain⟨b,xs,rfl,l,rs⟩:=Rep.lst.mp rr
   cases ru
   obtain⟨its,rv,pl,hz⟩:=I1.list l.sq
   have e1:=rv.length
   have e2:=rs.length
   refine call_reversed_list pl.isList (wpAny_pyIter_revIter (i:=(its.toArray.size:Int) - 1) ⟨_,Heap.get?_push_size _ rfl,rfl,rfl⟩ ?_)
   refine⟨s1.heap.objs.size,[s1.heap.objs.size],_,_,H1,rfl,I1.kept (t':=s1.toks) fun b o e=>Heap.get?_push_of_some _ e,yy b _ es.length,?_,fun c hc=>?_,q _ H1 ss fun B' H' pr=>?_⟩
   ·refine⟨_,Heap.get?_push_size _ rfl,rfl,?_⟩
    show Data.fields #[.ref b,rawInt ((its.toArray.size:Int) - 1)]=Data.fields #[.ref b,rawInt ((es.length:Int) - 1 - ((0:Nat):Int))]
    rw[List.size_toArray,←e1,←e2,show((es.length:Nat):Int) - 1 - ((0:Nat):Int)=(es.length:Int) - 1 by omega]
   ·have e:c=s1.heap.objs.size:=by simpa using hc
    subst e
    exact I1.oV (Nat.le_refl _) (I1.hok.fresh (Nat.le_refl _))
   ·have l':m5 X.K B' H' b xs:=l.bg pr
    have rs':=rs.bg pr
    refine⟨fun i d hd=>?_,⟨xs,l'.sq⟩,by rw[List.length_reverse]⟩
    have hi:i < es.length:=by have:=(List.getElem?_eq_some_iff.mp hd).1;rwa [List.length_reverse] at this
    rw[List.getElem?_reverse hi] at hd
    obtain⟨x,hx,rx⟩:=rs'.get hd
    refine⟨⟨xs,x,l'.sq,e2.symm,hi,hx⟩,fun v H'' yl hB'=>?_⟩
    obtain⟨rfl,hy⟩:=yl
    have hy2:=hy xs l'.sq
    rw[hx] at hy2
    cases hy2
    exact⟨aN.refl _,rx⟩
 | _=>cases h2
noncomputable def qj(K:PySem.W.Frag)(C:Addr)(m qual:Str)(st:Stmt):Prop:=∃f fd,vd K m qual st f fd∧Meth K C m f
noncomputable def DO(K:PySem.W.Frag)(C:Addr)(m qual:Str)(st:Stmt):Prop:=∃f fd,vd K m qual st f fd∧Mk K C f
end
end L2
namespace L3
open PySem PySem.Spec PyProof.Rows L2
section
variable {X:Cx} {cl:Nat→Addr}
theorem fT.p{P:Program}{w:World}{K:PySem.W.Frag}{mg:Str→Option Value}{base:Heap}{cl:Nat→Addr}{k c:Nat}{m:Str}{n:Nat}{N:List Str}{F:FZ}(C:fT P w K mg base cl k c m n (j6 N F)):fT P w K mg base cl k c m n (lA N F):=
 let⟨f,fd,ps,c1,c2,F,h⟩:=C;⟨f,fd,ps,c1,c2,F.imp fun _ _ _ _ h=>ug h,h⟩
end
end L3
end
section
set_option maxRecDepth 100000
set_option maxHeartbeats 4000000
namespace L2
open PySem PySem.Spec PyProof.Rows
section
variable {X:Cx}
noncomputable def Im(f:FD):aw→R (List D):=fun δ=>(f δ).bind fun d=>match d with | .int j=>R.bF (decide (-(2 ^ 62)≤j∧j < 16777216)) (.ok (bZ 0 j.toNat)) | _=> .no
noncomputable def ID(f:FD):FD:=fun δ=>(f δ).bind fun d=>match d with | .lst ds=> .ok (.lst ds.reverse) | _=> .no
end
end L2
end
section
set_option maxRecDepth 100000
set_option maxHeartbeats 4000000
namespace L2
open PySem PySem.Spec PyProof.Rows
section
variable {X:Cx}
noncomputable def Jf(K:PySem.W.Frag)(n:Nat)(t:y4):TG:=fun v σ H Q=>∃a xs,v= .ref a∧k3 K H a xs∧xs.length=n∧t xs σ H Q
end
end L2
namespace L3
open PySem PySem.Spec PyProof.Rows L2
section
variable {X:Cx} {cl:Nat→Addr}
noncomputable def Jt(n:Nat)(t:Aj):FG:=fun d δ=>match d with
 | .d (.lst ds)=>if ds.length=n then t (ds.map .d) δ else none
 | .lst vs=>if vs.length=n then t vs δ else none
 | _=>none
noncomputable def Ia(f g:FX):FA:=fun δ S=>(ax f (ax g bG) δ S).bind fun vs S1=>match vs with
 | [.d d, .d e]=>(match seqD? d,seqD? e with | some ds,some es=> .ok ((ED ds es).map .d) S1 | _,_=> .no)
 | _=> .no
noncomputable def qw(S:aJ):Prop:=∀o∈S,mE S.length o=true
theorem Flat.D6{S:aJ}(h:Flat S):qw S:=fun o ho=>h o ho _
theorem EF{N:List Str}{F:FZ}{vs:List V3}{S:aJ}{QV:V3→aJ→Prop}(h:W3 (j6 N F vs S) fun v S1=>(∀o∈S1.take S.length,mE S.length o=true)∧d8 S.length v=true∧∃d,res S1 v=some d∧QV (.d d) (S1.take S.length)):W3 (lA N F vs S) QV:=
 W3.bind (h.mono fun v S1 ⟨hl,hg,d,e,q⟩=>by
  rw[e]
  exact W3.wh (by rw[List.all_eq_true.mpr hl,hg];rfl) (W3.ok q))
theorem ka{N:List Str}{F:FZ}{vs:List V3}{S:aJ}{QV:V3→aJ→Prop}(hS:qw S)(h:W3 (j6 N F vs S) fun v S1=>d8 S.length v=true∧(∃T,S1=S++T)∧∃d,res S1 v=some d∧QV (.d d) S):W3 (lA N F vs S) QV:=
 EF (h.mono fun v S1 ⟨hg,⟨T,e1⟩,d,e,q⟩=>by
  subst e1
  rw[List.take_append_of_le_length (Nat.le_refl _),List.take_length]
  exact⟨hS,hg,d,e,q⟩)
end
end L3
end
section
set_option maxRecDepth 100000
set_option maxHeartbeats 4000000
namespace L2
open PySem PySem.Spec PyProof.Rows
section
variable {X:Cx}
noncomputable def ois?:List D→Option (List (Option Int))
 | []=>some []
 | .int i ::ds=>(ois? ds).map (some i ::·)
 | .cD ::ds=>(ois? ds).map (none ::·)
 | _ ::_=>none
noncomputable def Js:Option Int→V | some i=> .int i | none=> .cD
noncomputable def Jg(d e:D):R Bool:=match d,e with
 | .cD, .lst ds=>(match ois? ds with | some ss=> .ok (ss.any (·.isNone)) | none=> .no)
 | _,_=> .no
noncomputable def Ja(d e:D):R D:=(Jg d e).bind fun b=> .ok (.bl b)
end
end L2
end
section
set_option maxRecDepth 100000
set_option maxHeartbeats 4000000
namespace L2
open PySem PySem.Spec PyProof.Rows
section
variable {X:Cx}
noncomputable def G3(d:D)(ds:List D):R D:=match d,ds with
 | .lst es,[.int k]=>(match ints? es with | some ss=> .ok (.int (ss.count k:Nat)) | none=> .no)
 | _,_=> .no
end
end L2
end
section
set_option maxRecDepth 100000
set_option maxHeartbeats 4000000
namespace L2
open PySem PySem.Spec PyProof.Rows
section
variable {X:Cx}
noncomputable abbrev xM:D→D→R D:=qi (fun i j=>decide (0≤j∧j < 1000∧ -1000 < i∧i < 1000)) fun i j=>i*2 ^ j.toNat
theorem BX:iM X (binaryOp .LShift) xM:=rV Cb fun i j h=>by
 have:=of_decide_eq_true h
 exact⟨this.1,by omega,by omega⟩
noncomputable def yb(d e:D):R D:=match d,e with | .bl a, .bl b=> .ok (.bl (a !=b)) | _,_=> .no
theorem Ci:iM X (compareOp .IsNot) yb:=by
 intro pins s σ H B da db d x y v u I hb rx ry ra rb hg
 unfold yb at hg
 split at hg
 ·cases hg
  rw[Rep.bl.mp ra] at rx
  rw[Rep.bl.mp rb] at ry
  cases rx
  cases ry
  exact isnot_bool ⟨.bl _,H,I,rfl,aN.refl H,Rep.bl.mpr rfl⟩
 ·cases hg
end
end L2
namespace L3
open PySem PySem.Spec PyProof.Rows L2
section
variable {X:Cx} {cl:Nat→Addr}
noncomputable def rM(fo f:FX):FZ:=fun δ S=>(fo δ S).bind fun o S0=>match o with
 | .loc k=>(match cg S0 k with
   | none=> .no
   | some _=>(f δ S0).bind fun v S1=>match v with
     | .d d=>(match cg S1 k with | some ds=>R3.bF (decide (ds.length < sizeLine)) (.ok (.nx δ) (S1.set k (.lst (ds++[d])))) | none=> .no)
     | _=> .no)
 | _=> .no
theorem Ai{o e:Expr}{fo f:FX}{apos cpos pos:Pos}(ho:PX X cl o fo)(he:PX X cl e f)
 (hs:starEach [e] X.env=(false,eval e X.env) ::starEach [] X.env:=by rfl) (hline:(apos.endLine==cpos.line)=true:=by rfl)
 (hfew:((backTo cpos (starEach [e] X.env)).all (fun x=>!x.1) && (backToKw cpos (keywordEach [] X.env)).all (fun x=>x.1.isSome)
   && decide (([e]:List Expr).length+([]:List Keyword).length+(if([]:List Keyword).isEmpty then 0 else 1) < 30))=true:=by rfl)
 (hsw:swapsWith (.Call (.Attribute o "append" apos) [e] [] cpos) none pos.line X.env=pure false:=by rfl)
 (hbase:attributeBase o "append" X.env (eval o X.env)=eval o X.env:=by rfl) :
 PZ X cl (.Expr (.Call (.Attribute o "append" apos) [e] [] cpos) pos) (rM fo f):=by
 refine⟨(vU (yg (X:=X) PySem.F.plainAttrs_list PySem.F.slot_list_append PySem.F.type_list_append lC ho.1 (eU he.1 g9 hs) hbase hfew hline hs) hsw).imp fun D σ H ⟨ρ,S,δ,oo,S',E,hf,q⟩=>?_⟩
 unfold rM at hf
 obtain⟨vo,S0,g1,g2⟩:=R3.ak hf
 split at g2
 ·rename_i k
  split at g2
  ·cases g2
  ·rename_i ds0 h0
   obtain⟨v,S1,h1,h2⟩:=R3.ak g2
   split at h2
   ·rename_i d
    split at h2
    ·rename_i ds h3
     obtain⟨hl,h4⟩:=R3.ba h2
     cases h4
     refine⟨ρ,S,δ, .loc k,S0,E,g1,fun u ρ0 H0 p0 w0 r0=>?_⟩
     unfold aW at r0
     obtain⟨a,a1,rfl⟩:=r0
     obtain⟨xs0,x0,_⟩:=w0.ob k a _ a1 (cZ h0)
     refine⟨.inl ⟨rfl,xs0,k3.of x0⟩,⟨ρ0,S0,δ, .d d,S1,E.to p0 w0,h1,fun y ρ1 H1 p1 w1 r1=>?_⟩⟩
     have b1:=p1.ext k a a1
     obtain⟨xs,x1,x2⟩:=w1.ob k a _ b1 (cZ h3)
     refine⟨a,xs,y,rfl,rfl,x1,by rw[←x2.length];exact of_decide_eq_true hl,?_⟩
     unfold aW at r1
     obtain⟨w2,p2⟩:=w1.put (o:= .lst (ds++[d])) (u:= .lst (xs++[y])) b1 (w1.fz k a b1 (by rw[cZ h3];intro h;cases h)) ⟨xs++[y],rfl,x2.append (aC.cons r1 aC.nil)⟩
     exact q σ ρ1 _ (p0.trans (p1.trans p2)) (E.to (p0.trans (p1.trans p2)) w2)
    ·cases h2
   ·cases h2
 ·cases g2
theorem CP{fo f:FX}{δ:DE}{S:aJ}{k:Nat}{QO:Ou→aJ→Prop}(h:W3 (fo δ S) fun o S0=>o= .loc k∧(∃ds,S0[k]? =some (.lst ds))∧W3 (f δ S0) fun v S1=>∃d ds,v= .d d∧S1[k]? =some (.lst ds)∧ds.length < sizeLine∧QO (.nx δ) (S1.set k (.lst (ds++[d])))):W3 (rM fo f δ S) QO:=by
 unfold rM
 refine W3.bind (h.mono fun o S0 ⟨e,⟨ds0,h0⟩,h⟩=>?_)
 subst e
 have e0:cg S0 k=some ds0:=by unfold cg;rw [h0]
 simp only[e0]
 refine W3.bind (h.mono fun v S1 ⟨d,ds,e1,e2',hl,q⟩=>?_)
 subst e1
 have e3:cg S1 k=some ds:=by unfold cg;rw [e2']
 simp only[e3]
 exact W3.wh (decide_eq_true hl) (W3.ok q)
noncomputable def y7(f:FX):FA:=fun δ S=>(ax f bG δ S).bind fun vs S1=>match vs with
 | [.d (.lst ds)]=> .ok ((dO ds).map .d) S1
 | _=> .no
theorem zG{elts:List Expr}{k:Nat}{tpos:Pos}{a:Expr}{f:FX}{p pos:Pos}(h:PX X cl a f)(hg:Gl X "enumerate")(hm:X.mg "enumerate"=none)(hs:starEach [a] X.env=[(false,eval a X.env)]:=by rfl) :
 DI X cl (.Tuple elts k tpos) (.Call (.Name "enumerate" p) [a] [] pos) (y7 f):=by
 refine⟨?_⟩
 intro pins s σ H RR I ⟨ρ,S,δ,vs,S',E,hf,q⟩
 obtain⟨ws,S1,h1,h2⟩:=R3.ak hf
 have hA:=(ah h aF hs).1 pos pins s σ H (fun us H1=>∃ρ1,Pre ρ H ρ1 H1∧SW X.K cl ρ1 H1 S1∧aA X.K ρ1 H1 ws us) I
  ⟨ρ,S,δ,ws,S1,E,h1,fun us ρ1 H1 p1 w1 r1=>⟨ρ1,p1,w1,r1⟩⟩
 refine Call_ (jy I hg hm boot_enumerate (PyProof.Rows.callWith_type1 (dg hA fun us s1 ⟨xs,H1,I1,r1,ρ1,p1,w1,rr⟩=>?_) hs rfl))
 split at h2
 ·rename_i es _
  cases h2
  obtain⟨v,ys,ev,ra,rr⟩:=rr.bU
  unfold aA at rr
  subst rr ev
  obtain⟨u,rfl,ru⟩:=vals1 r1
  unfold aW at ra
  obtain⟨b,xs,rfl,l,rs⟩:=Rep.lst.mp ra
  cases ru
  obtain⟨its,n,rv,e1,hz⟩:=I1.BS l
  refine call_enumerate_list (items:=its.toArray) ⟨_,e1,rfl,n,rfl⟩ fun h' he hit hsz kk=>wpAny_pyIter_enum he ?_
  have I2:Inv X pins σ H1 {s1 with heap:=h'}:=I1.kept (t':=s1.toks) kk
  refine⟨s1.heap.objs.size+1,[s1.heap.objs.size+1,s1.heap.objs.size],_,_,H1,rfl,I2,pN b (s1.heap.objs.size+1) s1.heap.objs.size (Nat.succ_ne_self _),⟨⟨_,he⟩,hit⟩,fun c hc=>?_,q _ ρ1 H1 p1 w1 (Eh.of fun B' H' pr=>?_)⟩
  ·have hle:s1.heap.objs.size≤c:=by
    rcases List.mem_cons.mp hc with z | hc
    ·rw[z];exact Nat.le_succ _
    ·have z:c=s1.heap.objs.size:=by simpa using hc
     rw[z];exact Nat.le_refl _
   exact I1.oV hle (I1.hok.fresh hle)
  ·have l':m5 X.K B' H' b xs:=l.bg pr
   have rs':=rs.bg pr
   refine⟨fun i d hd=>?_,⟨xs,l'.sq,by rw[←rs.length];unfold dO;simp⟩⟩
   unfold dO at hd
   rw[List.getElem?_map,List.getElem?_zipIdx] at hd
   cases e:es[i]? with
   | none=>rw [e] at hd;cases hd
   | some d0=>
     rw[e] at hd
     have hd:D.tup [.int ((0+i:Nat):Int),d0]=d:=Option.some.inj hd
     rw[Nat.zero_add] at hd
     obtain⟨x,hx,rx⟩:=rs'.get e
     refine⟨⟨xs,x,l'.sq,hx⟩,fun v H'' y hB'=>?_⟩
     obtain⟨p,y,hp,rfl,hy,rfl⟩:=y
     refine⟨a0 hp,?_⟩
     subst hd
     have hy2:=hy xs l'.sq
     rw[hx] at hy2
     cases hy2
     refine Rep.tup.mpr ⟨p,_,rfl, .inl ⟨fun ha=>?_, .inl bc⟩,aC.cons (Rep.int.mpr rfl) (aC.cons (rx.same (a0 hp)) aC.nil)⟩
     obtain⟨o,ho⟩:=hB' p ha
     rw[hp] at ho;cases ho
 ·cases h2
theorem Cg{f:FX}{δ:DE}{S:aJ}{Q:List V3→aJ→Prop}(h:W3 (f δ S) fun v S1=>∃ds,v= .d (.lst ds)∧Q ((dO ds).map .d) S1):W3 (y7 f δ S) Q:=
 W3.bind (W3.bind (h.mono fun v S1 ⟨ds,e1,q⟩=>by
  subst e1
  exact W3.bind (W3.ok (W3.ok (W3.ok q)))))
end
end L3
end
section
set_option maxRecDepth 100000
set_option maxHeartbeats 4000000
namespace NT
noncomputable def mx(f:Nat→Nat)(w:List Nat):Nat:=(w.map f).foldl max 0
structure BA (f:Nat→Nat) (M:Nat) (bs:List Int):Prop where
 a:∀(z:Nat) (v:Int),bs[z]? =some v→v= -1∨(0≤v∧v+f z≤M)
noncomputable def BB(f:Nat→Nat)(M:Nat)(bs:List Int)(n:Nat):Prop:=∃(z:Nat) (v:Int),z < n∧bs[z]? =some v∧0≤v∧(M:Int)≤v+f z
noncomputable def Up(bs bs':List Int):Prop:=bs'.length=bs.length∧∀(z:Nat) (v:Int),bs[z]? =some v→∃v',bs'[z]? =some v'∧v≤v'
end NT
namespace NT
open PySem PySem.Spec PyProof.Rows L2 L3
structure Gt where
 k:Str
 w:List Nat
 s:Bool
noncomputable def nN(z:Nat):D:= .int z
noncomputable def wN(w:List Nat):D:= .tup (w.map nN)
noncomputable def gN(g:Gt):D:= .tup [.str g.k,wN g.w, .bl g.s]
noncomputable def iN(x:Str × Nat):D:= .tup [.str x.1, .int x.2]
noncomputable def oN(x:Str × List Nat):D:= .tup [.str x.1,wN x.2]
structure Net where
 i:List (Str × Nat)
 g:List Gt
 o:List (Str × List Nat)
noncomputable def Net.d(n:Net):D:= .tup [.lst (n.i.map iN), .lst (n.g.map gN), .lst (n.o.map oN)]
noncomputable def Net.first(n:Net):Nat:=(n.i.map (·.2)).sum
structure Ht (n:Nat) (w:List Nat):Prop where
 ne:w≠[]
 le:w.length≤3
 lt:∀z∈w,z < n
structure Net.Ok (n:Net):Prop where
 i1:1≤n.i.length
 i6:n.i.length≤6
 iw:∀x∈n.i,1≤x.2∧x.2≤3
 is:∀x∈n.i,gg 0 (.str x.1)
 g60:n.g.length≤60
 gw:∀(p:Nat) (g:Gt),n.g[p]? =some g→Ht (n.first+p) g.w
 gs:∀g∈n.g,gg 0 (.str g.k)
 o1:1≤n.o.length
 o6:n.o.length≤6
 ow:∀x∈n.o,Ht (n.first+n.g.length) x.2
 os:∀x∈n.o,gg 0 (.str x.1)
inductive Sm:Nat→D→Prop where
 | int (n:Nat) (i:Int):Sm n (.int i)
 | bl (n:Nat) (b:Bool):Sm n (.bl b)
 | str (n:Nat) (s:Str):Sm n (.str s)
 | lst {n:Nat} {ds:List D} (h:∀d∈ds,Sm n d) (hl:ds.length≤1000000):Sm (n+1) (.lst ds)
 | tup {n:Nat} {ds:List D} (h:∀d∈ds,Sm n d) (hl:ds.length≤1000000):Sm (n+1) (.tup ds)
theorem iU{F G:FS}{δ:aw}{d:D}(h:F δ= .ok (.rt d)):eN F G δ= .ok (.rt d):=by unfold eN;rw [h];rfl
theorem lE{m i:Nat}{v:V3}(h:((bZ 0 m).map V3.d)[i]? =some v):i < m∧v= .d (.int i):=by
 rw[List.getElem?_map,bZ,List.getElem?_map] at h
 cases q:(List.range m)[i]? with
 | none=>rw [q] at h;cases h
 | some j=>
   rw[q] at h;cases h
   obtain⟨q1,q2⟩:=List.getElem?_eq_some_iff.mp q
   rw[List.getElem_range] at q2
   rw[List.length_range] at q1
   subst q2
   exact⟨q1,by simp⟩
theorem kJ{α:Type}{l:List α}{f:α→D}{i:Nat}{v:V3}(h:((l.map f).map V3.d)[i]? =some v):∃x,l[i]? =some x∧v= .d (f x):=by
 rw[List.getElem?_map,List.getElem?_map] at h
 cases q:l[i]? with
 | none=>rw [q] at h;cases h
 | some x=>rw [q] at h;cases h;exact⟨x,rfl,rfl⟩
theorem Bx{α:Type}{l:List α}{f:α→D}{i:Nat}{v:D}(h:(l.map f)[i]? =some v):∃x,l[i]? =some x∧v=f x:=by
 rw[List.getElem?_map] at h
 cases q:l[i]? with
 | none=>rw [q] at h;cases h
 | some x=>rw [q] at h;cases h;exact⟨x,rfl,rfl⟩
theorem eB{α:Type}{t:FT}{c:aw→R Bool}{f:FD}{δ:aw}(a b:α→D):∀{xs:List α},(∀x∈xs,∃δ1,t (a x) δ= .ok δ1∧c δ1= .ok true∧f δ1= .ok (b x))→nH t c f δ (xs.map a)= .ok (xs.map b)
 | [],_=>rfl
 | x ::xs,h=>by
   obtain⟨δ1,h1,h2,h3⟩:=h x List.mem_cons_self
   have ih:=eB (t:=t) (c:=c) (f:=f) (δ:=δ) a b (xs:=xs) fun y hy=>h y (List.mem_cons_of_mem _ hy)
   rw[List.map_cons]
   unfold nH
   rw[h1,R.aS,h2,R.aS,if_pos rfl,h3,R.aS,ih]
   rfl
theorem AI{n z:Nat}(h:z < n):m8 n (z:Int)=some z:=by
 unfold m8
 rw[if_pos (by omega),if_pos (by omega)]
 simp
theorem sH{α:Type}{xs:List α}{z:Nat}{x:α}(h:xs[z]? =some x):l8 xs (z:Int)=some x:=by
 have hl:=(List.getElem?_eq_some_iff.mp h).1
 unfold l8
 rw[AI hl]
 exact h
theorem vt{ds:List D}{z:Nat}{x:D}(h:ds[z]? =some x):cw (.lst ds) (.int z)= .ok x:=iZ (sH h)
end NT
end
section
set_option maxRecDepth 100000
set_option maxHeartbeats 4000000
namespace MT
open PySem PySem.Spec PyProof.Rows L2 L3
noncomputable abbrev M:=Nat→Bool
theorem GD{N:List Str}{F:FZ}{vs:List V3}{δ:DE}{S:aJ}{QV:V3→aJ→Prop}(e:bx N vs=δ)(h:W3 (F δ S) fun o S1=>∃δ',o= .nx δ'∧QV (.d .cD) S1):W3 (j6 N F vs S) QV:=by
 subst e
 exact W3.bind (h.mono fun _ _ ⟨_,e,q⟩=>by subst e;exact W3.ok q)
noncomputable def fX:Nat→M→Nat
 | 0,_=>0
 | N+1,f=>(if f 0 then 1 else 0)+2*fX N (fun i=>f (i+1))
theorem fN:∀(N:Nat) (f:M) (i:Nat),(fX N f).testBit i=(decide (i < N) && f i)
 | 0,f,i=>by unfold fX;simp
 | N+1,f,0=>by
   unfold fX
   rw[Nat.testBit_zero]
   cases f 0 <;> simp <;> omega
 | N+1,f,i+1=>by
   unfold fX
   rw[Nat.testBit_succ]
   have:((if f 0=true then 1 else 0)+2*fX N fun i=>f (i+1)) / 2=fX N fun i=>f (i+1):=by split <;> omega
   rw[this,fN N _ i]
   simp
theorem jU:∀{N:Nat} {f g:M},(∀i,i < N→f i=g i)→fX N f=fX N g
 | 0,_,_,_=>rfl
 | N+1,f,g,h=>by
   unfold fX
   rw[h 0 (by omega),jU (N:=N) fun i hi=>h (i+1) (by omega)]
theorem uN(N:Nat)(f g:M):fX N f &&& fX N g=fX N fun i=>f i && g i:=by
 refine Nat.eq_of_testBit_eq fun i=>?_
 rw[Nat.testBit_and,fN,fN,fN]
 cases decide (i < N) <;> simp
theorem xl(N:Nat)(f g:M):fX N f ||| fX N g=fX N fun i=>f i || g i:=by
 refine Nat.eq_of_testBit_eq fun i=>?_
 rw[Nat.testBit_or,fN,fN,fN]
 cases decide (i < N) <;> simp
theorem vk:∀(N:Nat) (f g:M),((fX N fun i=>f i || g i:Nat):Int) - (fX N fun i=>f i && g i:Nat)=(fX N fun i=>f i !=g i:Nat)
 | 0,f,g=>rfl
 | N+1,f,g=>by
   have ih:=vk N (fun i=>f (i+1)) (fun i=>g (i+1))
   have e:∀h:M,fX (N+1) h=(if h 0 then 1 else 0)+2*fX N (fun i=>h (i+1)):=fun _=>rfl
   rw[e,e,e]
   generalize fX N (fun i=>f (i+1) || g (i+1))=a at ih ⊢
   generalize fX N (fun i=>f (i+1) && g (i+1))=b at ih ⊢
   generalize fX N (fun i=>f (i+1) !=g (i+1))=c at ih ⊢
   show(((if(f 0 || g 0) then 1 else 0)+2*a:Nat):Int) - ((if(f 0 && g 0) then 1 else 0)+2*b:Nat)=((if(f 0 !=g 0) then 1 else 0)+2*c:Nat)
   cases f 0 <;> cases g 0 <;> simp <;> omega
theorem nK(x y:Nat):Builtin.bitAnd (x:Int) (y:Int)=((x &&& y:Nat):Int):=by
 unfold Builtin.bitAnd
 rw[decide_eq_true (by omega:(0:Int)≤x),decide_eq_true (by omega:(0:Int)≤y)]
 simp
theorem vj(x y:Nat):Builtin.bitOr (x:Int) (y:Int)=((x ||| y:Nat):Int):=by
 unfold Builtin.bitOr Builtin.bitAnd Builtin.bitNot
 rw[decide_eq_false (by omega:¬(0:Int)≤ -(x:Int) - 1),decide_eq_false (by omega:¬(0:Int)≤ -(y:Int) - 1)]
 show -(-(((-(-(x:Int) - 1) - 1).toNat ||| (-(-(y:Int) - 1) - 1).toNat:Nat):Int) - 1) - 1=_
 rw[show(-(-(x:Int) - 1) - 1).toNat=x by omega,show(-(-(y:Int) - 1) - 1).toNat=y by omega]
 omega
noncomputable def mI(N:Nat)(f:M):D:= .int (fX N f:Nat)
theorem rD(N:Nat)(f g:M):zQ (mI N f) (mI N g)= .ok (mI N fun i=>f i && g i):=by
 show R.ok (D.int (Builtin.bitAnd (fX N f:Int) (fX N g:Int)))=_
 rw[nK,uN];rfl
theorem yW(N:Nat)(f g:M):C5 (mI N f) (mI N g)= .ok (mI N fun i=>f i || g i):=by
 show R.ok (D.int (Builtin.bitOr (fX N f:Int) (fX N g:Int)))=_
 rw[vj,xl];rfl
theorem BK(N:Nat)(f g:M):zX (mI N f) (mI N g)= .ok (mI N fun i=>f i !=g i):=by
 show R.ok (D.int (Builtin.bitOr (fX N f:Int) (fX N g:Int) - Builtin.bitAnd (fX N f:Int) (fX N g:Int)))=_
 rw[vj,nK,xl,uN,vk];rfl
noncomputable def one:M:=fun _=>true
theorem q4(N:Nat)(f:M):zX (mI N one) (mI N f)= .ok (mI N fun i=>!f i):=by
 rw[BK]
 have:(fun i=>one i !=f i)=fun i=>!f i:=by funext i;unfold one;simp
 rw[this]
theorem zh(N:Nat)(f:M)(c:Bool):(if c then zX (mI N one) (mI N f) else .ok (mI N f))= .ok (mI N fun i=>f i !=c):=by
 cases c with
 | true=>
   rw[if_pos rfl,q4]
   have:(fun i=>!f i)=fun i=>f i !=true:=by funext i;cases f i <;> rfl
   rw[this]
 | false=>
   rw[if_neg (by decide)]
   have:f=fun i=>f i !=false:=by funext i;cases f i <;> rfl
   rw[←this]
theorem ES(N:Nat)(f:M)(n:Nat):(lD (mI N f) (.int n)).bind (fun d=>zQ d (.int 1))= .ok (.int (if decide (n < N) && f n then 1 else 0)):=by
 have h1:lD (mI N f) (.int n)= .ok (.int ((fX N f / 2 ^ n:Nat):Int)):=by
  show R.bF (decide ((0:Int)≤n)) (.ok (D.int ((fX N f:Int) / 2 ^ ((n:Int)).toNat)))=_
  rw[bB _ (by omega),Int.toNat_natCast]
  congr 2
 rw[h1,R.aS]
 show R.ok (D.int (Builtin.bitAnd ((fX N f / 2 ^ n:Nat):Int) ((1:Nat):Int)))=_
 rw[nK,Nat.and_one_is_mod,←fN]
 congr 2
 unfold Nat.testBit
 rw[Nat.shiftRight_eq_div_pow,Nat.one_and_eq_mod_two]
 have:fX N f / 2 ^ n % 2=0∨fX N f / 2 ^ n % 2=1:=by omega
 rcases this with q | q <;> rw[q] <;> rfl
noncomputable def bI(b:Bool):D:= .int (if b then 1 else 0)
noncomputable def z0:List Bool→Nat
 | []=>0
 | b ::bs=>(if b then 1 else 0)+2*z0 bs
theorem zq:∀bs:List Bool,z0 bs=fX bs.length fun i=>bs.getD i false
 | []=>rfl
 | b ::bs=>by
   unfold z0
   rw[zq bs]
   rfl
noncomputable def nI(n:Nat):D:= .int (n:Int)
noncomputable def kS:Nat→Str | 0=>Str.ofString "not" | 1=>Str.ofString "and" | 2=>Str.ofString "or" | 3=>Str.ofString "xor" | _=>Str.ofString "vote"
noncomputable def ar:Nat→Nat | 0=>1 | 4=>3 | _=>2
theorem yw(k:Nat):ar k≤3:=by unfold ar;split <;> omega
noncomputable def gv:Nat→List Bool→Bool
 | 0,[a]=>!a
 | 1,[a,b]=>a && b
 | 2,[a,b]=>a || b
 | 3,[a,b]=>a !=b
 | 4,[a,b,c]=>(a && b) || (a && c) || (b && c)
 | _,_=>false
noncomputable def gm(ws:List M)(n:Nat):M:=ws.getD n fun _=>false
theorem mQ{ws:List M}{b:M}{n:Nat}(h:n < ws.length):gm (ws++[b]) n=gm ws n:=by
 unfold gm
 rw[List.getD_eq_getElem?_getD,List.getElem?_append_left h,List.getD_eq_getElem?_getD]
theorem ng(ws:List M)(b:M):gm (ws++[b]) ws.length=b:=by
 unfold gm
 rw[List.getD_eq_getElem?_getD,List.getElem?_append_right (Nat.le_refl _),Nat.sub_self]
 rfl
noncomputable abbrev Gt:=Nat × List Nat × Bool
noncomputable def gW(g:Gt):D:= .tup [.str (kS g.1), .tup (g.2.1.map nI), .bl g.2.2]
noncomputable def kz(n:Nat)(g:Gt):Prop:=g.1≤4∧g.2.1.length=ar g.1∧∀w∈g.2.1,w < n
noncomputable def inD(x:Str × Nat):D:= .tup [.str x.1,nI x.2]
noncomputable def uq(x:Str × List Nat):D:= .tup [.str x.1, .tup (x.2.map nI)]
noncomputable def cN(ins:List (Str × Nat))(gs:List Gt)(os:List (Str × List Nat)):D:= .tup [.lst (ins.map inD), .lst (gs.map gW), .lst (os.map uq)]
noncomputable def fq(ins:List (Str × Nat)):Nat:=(ins.map (·.2)).sum
noncomputable def gF(g:Gt)(ws:List M):M:=fun p=>gv g.1 (g.2.1.map fun n=>gm ws n p)
noncomputable def fg(bad:List Int)(b:M):Nat→List M→List M
 | 0,ws=>ws
 | n+1,ws=>fg bad b n ws++[fun p=>b p !=bad.contains ((fg bad b n ws).length:Int)]
theorem fK(bad:List Int)(b:M):∀n ws,(fg bad b n ws).length=ws.length+n
 | 0,ws=>rfl
 | n+1,ws=>by unfold fg;rw [List.length_append,fK bad b n ws];rfl
noncomputable def cJ(ins:List (Str × Nat))(bits:List M)(bad:List Int):Nat→List M
 | 0=>[]
 | i+1=>match ins[i]?,bits[i]? with | some x,some b=>fg bad b x.2 (cJ ins bits bad i) | _,_=>cJ ins bits bad i
theorem k6{ins:List (Str × Nat)}{bits:List M}{bad:List Int}(hb:bits.length=ins.length):∀i,i≤ins.length→(cJ ins bits bad i).length=fq (ins.take i)
 | 0,_=>rfl
 | i+1,hi=>by
   have h1:ins[i]? =some ins[i]:=List.getElem?_eq_getElem (by omega)
   have h2:bits[i]? =some bits[i]:=List.getElem?_eq_getElem (by omega)
   unfold cJ
   rw[h1,h2]
   show(fg bad bits[i] ins[i].2 (cJ ins bits bad i)).length=_
   rw[fK,k6 hb i (by omega),List.take_add_one,h1]
   unfold fq
   simp only[Option.toList_some,List.map_append,List.sum_append,List.map_cons,List.map_nil,List.sum_cons,List.sum_nil]
   omega
noncomputable def j0(gs:List Gt)(turned:List Int)(w0:List M):Nat→List M
 | 0=>w0
 | i+1=>match gs[i]? with | some g=>j0 gs turned w0 i++[fun p=>gF g (j0 gs turned w0 i) p !=turned.contains (i:Int)] | none=>j0 gs turned w0 i
theorem kR{gs:List Gt}{turned:List Int}{w0:List M}:∀i,i≤gs.length→(j0 gs turned w0 i).length=w0.length+i
 | 0,_=>rfl
 | i+1,hi=>by
   have h1:gs[i]? =some gs[i]:=List.getElem?_eq_getElem (by omega)
   unfold j0
   rw[h1]
   show(j0 gs turned w0 i++[_]).length=_
   rw[List.length_append,kR i (by omega)]
   rfl
structure jj (ins:List (Str × Nat)) (gs:List Gt) (os:List (Str × List Nat)):Prop where
 hi:ins.length < 100
 hw:∀x∈ins,x.2 < 100
 hg:gs.length < 1000
 g:∀(i:Nat) (x:Gt),gs[i]? =some x→kz (fq ins+i) x
 ho:os.length < 1000
 o:∀x∈os,x.2.length < 1000∧∀w∈x.2,w < fq ins+gs.length
noncomputable def mD(ins:List (Str × Nat))(gs:List Gt)(bits:List M)(turned bad:List Int):List M:=j0 gs turned (cJ ins bits bad ins.length) gs.length
theorem sY:∀{l:List (Str × Nat)},(∀x∈l,x.2 < 100)→fq l≤100*l.length
 | [],_=>by simp [fq]
 | x ::l,h=>by
   have ih:=sY (l:=l) fun y hy=>h y (List.mem_cons_of_mem _ hy)
   have:=h x List.mem_cons_self
   unfold fq at ih ⊢
   rw[List.map_cons,List.sum_cons,List.length_cons]
   omega
theorem rC{ins:List (Str × Nat)}{gs:List Gt}{bits:List M}{turned bad:List Int}(hb:bits.length=ins.length):(mD ins gs bits turned bad).length=fq ins+gs.length:=by unfold mD;rw [kR _ (Nat.le_refl _),k6 hb _ (Nat.le_refl _),List.take_length]
noncomputable def tell(ws:List M)(x:Str × List Nat):List M:=x.2.map (gm ws)
noncomputable def A9:List Bool→Bool × Bool
 | [a]=>(!a,a)
 | [a,b]=>(!(a || b),a && b)
 | [a,b,c]=>let v:=(a && b) || (a && c) || (b && c);(!v,v)
 | _=>(false,false)
noncomputable def brk(safe:Bool)(x y:Bool × Bool):Bool:=if safe then(x.1 && y.2) || (x.2 && y.1) else(x.1 !=y.1) || (x.2 !=y.2)
theorem uZ(i:Int)(ps:List Int):nc (.int i) (.tup (ps.map .int))= .ok (.bl (ps.contains i)):=by
 show((match ints? (ps.map D.int) with | some ss=>R.ok (ss.contains i) | none=> .no)).bind (fun b=>R.ok (D.bl b))=_
 rw[L2.ints_map];rfl
theorem qx{ds:List D}{i:Nat}{v:V3}(h:((dO ds).map V3.d)[i]? =some v):∃d,ds[i]? =some d∧v= .d (.tup [.int i,d]):=by
 rw[List.getElem?_map,dO,List.getElem?_map,List.getElem?_zipIdx] at h
 cases q:ds[i]? with
 | none=>rw [q] at h;cases h
 | some d=>
   rw[q] at h
   simp at h
   exact⟨d,rfl,h.symm⟩
theorem qA{c:aw→R Bool}{f g:FD}{δ:aw}{b:Bool}{r:R D}(h:c δ= .ok b)(h2:(if b then f δ else g δ)=r):tq c f g δ=r:=by unfold tq;rw [h,R.aS];exact h2
theorem eP(S:aJ)(x y:SO):(S++[x]).set S.length y=S++[y]:=by
 rw[List.set_append_right _ _ (Nat.le_refl _),Nat.sub_self];rfl
theorem bh(S:aJ)(x:SO):(S++[x])[S.length]? =some x:=by rw[List.getElem?_append_right (Nat.le_refl _),Nat.sub_self];rfl
theorem D2{N:Nat}{ws:List M}{n:Nat}(h:n < ws.length):cw (.lst (ws.map (mI N))) (nI n)= .ok (mI N (gm ws n)):=by
 refine NT.vt ?_
 rw[List.getElem?_map,List.getElem?_eq_getElem h]
 unfold gm
 rw[List.getD_eq_getElem?_getD,List.getElem?_eq_getElem h]
 rfl
end MT
namespace MT
open PySem PySem.Spec PyProof.Rows L2 L3
noncomputable def Jp:List Nat→Nat→List (List Nat)
 | _,0=>[[]]
 | ps,s+1=>(List.range ps.length).flatMap fun a=>(Jp (ps.drop (a+1)) s).map (ps.getD a 0 ::·)
end MT
end
section
set_option Elab.async false
set_option linter.all false
set_option maxRecDepth 100000
set_option maxHeartbeats 4000000
namespace K13
open PySem PySem.Spec PyProof.Rows L2 L3
noncomputable def top(i:Nat):Stmt:=PySem.Challenge.pw_bearfaults_k13_whole_columns_by_runs.main.body.getD i (.Pass ⟨0,0,0,0⟩)
structure Tp (K:PySem.W.Frag) (mg:Str→Option Value) (cl:Nat→Addr):Prop where
 z_enumerate:mg (Str.ofString "enumerate")=none
 z_range:mg (Str.ofString "range")=none
 z_len:mg (Str.ofString "len")=none
 z_tuple:mg (Str.ofString "tuple")=none
 z_reversed:mg (Str.ofString "reversed")=none
 z_all:mg (Str.ofString "all")=none
 z_abs:mg (Str.ofString "abs")=none
 z_min:mg (Str.ofString "min")=none
 z_sum:mg (Str.ofString "sum")=none
 z_isinstance:mg (Str.ofString "isinstance")=none
 z_bool:mg (Str.ofString "bool")=none
 z_int:mg (Str.ofString "int")=none
 C_Bench:sV K (cl 0)
 N_Bench_net:dM K (cl 0) (Str.ofString "net")
 N_Bench_many_inputs:dM K (cl 0) (Str.ofString "many_inputs")
 N_Bench_full:dM K (cl 0) (Str.ofString "full")
 N_Bench_in_masks:dM K (cl 0) (Str.ofString "in_masks")
 M_Bench:mg (Str.ofString "Bench")=some (.ref (cl 0))
noncomputable abbrev d5:Stmt:=top 2
noncomputable abbrev pq:List Str:=[(Str.ofString "masks")]
noncomputable def uf:{b:List Stmt // aq d5=b}:=by
 have e:aq d5=aq d5:=rfl
 conv at e=>rhs;whnf
 exact⟨_,e⟩
noncomputable def nW:{b:Scope // ag d5=b}:=by
 have e:ag d5=ag d5:=rfl
 conv at e=>rhs;whnf
 exact⟨_,e⟩
theorem wq:aX pq [(Str.ofString "masks")] nW.1:=⟨rfl,rfl,rfl,by decide+kernel,rfl,by decide+kernel,by decide+kernel⟩
noncomputable def pj:FS:=(el (e2 C5 (e2 C5 (e2 zQ (e2 cw (ai 0) (eC (.int 0))) (e2 cw (ai 0) (eC (.int 1)))) (e2 zQ (e2 cw (ai 0) (eC (.int 0))) (e2 cw (ai 0) (eC (.int 2))))) (e2 zQ (e2 cw (ai 0) (eC (.int 1))) (e2 cw (ai 0) (eC (.int 2))))))
noncomputable def eM:List D→R D:=mH pq pj
theorem wC{P:Program}{w:World}{K:PySem.W.Frag}{mg:Str→Option Value}{base:Heap}{cl:Nat→Addr}(T:Tp K mg cl)(h:Def K mg (Str.ofString "vote_of") d5):Callee P w K mg base 1 (Str.ofString "vote_of") 1 eM:=by
 obtain⟨f,fd,F,hm⟩:=h
 exact⟨f,fd,_,c8 (k:=0) uf.2 nW.2 F wq (fun cdv A outer s H E hr=>(bH (bO (aL zO (aL zO (aL wQ (aH (aa 0) af (fun _ _=>rfl)) (aH (aa 0) af (fun _ _=>rfl))) (aL wQ (aH (aa 0) af (fun _ _=>rfl)) (aH (aa 0) af (fun _ _=>rfl)))) (aL wQ (aH (aa 0) af (fun _ _=>rfl)) (aH (aa 0) af (fun _ _=>rfl))))))),hm,F.kp,F.binds fun _ _ _ _ _ _ us hl=>match us,hl with | [_],_=>rfl⟩
noncomputable abbrev cX:Stmt:=top 3
noncomputable abbrev jv:List Str:=[(Str.ofString "kind"),(Str.ofString "masks"),(Str.ofString "full")]
noncomputable def qk:{b:List Stmt // aq cX=b}:=by
 have e:aq cX=aq cX:=rfl
 conv at e=>rhs;whnf
 exact⟨_,e⟩
noncomputable def lg:{b:Scope // ag cX=b}:=by
 have e:ag cX=ag cX:=rfl
 conv at e=>rhs;whnf
 exact⟨_,e⟩
theorem qT:aX jv [(Str.ofString "kind"),(Str.ofString "masks"),(Str.ofString "full")] lg.1:=⟨rfl,rfl,rfl,by decide+kernel,rfl,by decide+kernel,by decide+kernel⟩
noncomputable def l5:FS:=(eN (nU (b2 ik (ai 0) (eC (.str (Str.ofString "not")))) (el (e2 zX (ai 2) (e2 cw (ai 1) (eC (.int 0))))) i9) (eN (nU (b2 ik (ai 0) (eC (.str (Str.ofString "and")))) (el (e2 zQ (e2 cw (ai 1) (eC (.int 0))) (e2 cw (ai 1) (eC (.int 1))))) i9) (eN (nU (b2 ik (ai 0) (eC (.str (Str.ofString "or")))) (el (e2 C5 (e2 cw (ai 1) (eC (.int 0))) (e2 cw (ai 1) (eC (.int 1))))) i9) (eN (nU (b2 ik (ai 0) (eC (.str (Str.ofString "xor")))) (el (e2 zX (e2 cw (ai 1) (eC (.int 0))) (e2 cw (ai 1) (eC (.int 1))))) i9) (el (aK eM (au (ai 1) aI)))))))
noncomputable def eH:List D→R D:=mH jv l5
theorem so{P:Program}{w:World}{K:PySem.W.Frag}{mg:Str→Option Value}{base:Heap}{cl:Nat→Addr}(T:Tp K mg cl)(h:Def K mg (Str.ofString "gate_mask") cX)(C_vote_of:Callee P w K mg base 1 (Str.ofString "vote_of") 1 eM):Callee P w K mg base 2 (Str.ofString "gate_mask") 3 eH:=by
 obtain⟨f,fd,F,hm⟩:=h
 exact⟨f,fd,_,c8 (k:=1) qk.2 lg.2 F qT (fun cdv A outer s H E hr=>(cu (gO (bV (jk hr.units) (aa 0) bp (bX _)) (bH (bO (aL wa (aa 2) (aH (aa 1) af (fun _ _=>rfl))))) fR) (cu (gO (bV (jk hr.units) (aa 0) bp (bX _)) (bH (bO (aL wQ (aH (aa 1) af (fun _ _=>rfl)) (aH (aa 1) af (fun _ _=>rfl))))) fR) (cu (gO (bV (jk hr.units) (aa 0) bp (bX _)) (bH (bO (aL zO (aH (aa 1) af (fun _ _=>rfl)) (aH (aa 1) af (fun _ _=>rfl))))) fR) (cu (gO (bV (jk hr.units) (aa 0) bp (bX _)) (bH (bO (aL wa (aH (aa 1) af (fun _ _=>rfl)) (aH (aa 1) af (fun _ _=>rfl))))) fR) (bH (bO (bW C_vote_of hr (by decide) rfl (ab (aa 1) aj) (aV cx))))))))),hm,F.kp,F.binds fun _ _ _ _ _ _ us hl=>match us,hl with | [_,_,_],_=>rfl⟩
noncomputable abbrev bJ:Stmt:=top 4
noncomputable abbrev eu:List Str:=[(Str.ofString "ins"),(Str.ofString "in_masks"),(Str.ofString "full"),(Str.ofString "bad"),(Str.ofString "wires"),(Str.ofString "place"),(Str.ofString "mask"),(Str.ofString "figure")]
noncomputable def lM:{b:List Stmt // aq bJ=b}:=by
 have e:aq bJ=aq bJ:=rfl
 conv at e=>rhs;whnf
 exact⟨_,e⟩
noncomputable def iy:{b:Scope // ag bJ=b}:=by
 have e:ag bJ=ag bJ:=rfl
 conv at e=>rhs;whnf
 exact⟨_,e⟩
theorem dz:aX eu [(Str.ofString "ins"),(Str.ofString "in_masks"),(Str.ofString "full"),(Str.ofString "bad")] iy.1:=⟨rfl,rfl,rfl,by decide+kernel,rfl,by decide+kernel,by decide+kernel⟩
noncomputable def eV:FZ:=(iq 4 (xT (tq (b2 nc (aK cK (au (ai 4) aI)) (ai 3)) (e2 zX (ai 2) (ai 6)) (ai 6))))
noncomputable def gJ:FZ:=(jx (iP (eg (e2 cw (e2 cw (ai 0) (ai 5)) (eC (.int 1))))) (ic 7) eV)
noncomputable def fW:FZ:=(bo (cb 4 (kP (dE aI))) (bo (jx (iP (vC (ai 1))) (vg 2 (qP (ic 5) (qP (ic 6) wg))) gJ) (gb (bw 4))))
noncomputable def cF:List V3→aJ→R3 V3:=j6 eu fW
noncomputable def lF:List V3→aJ→R3 V3:=lA eu fW
theorem mJ{P:Program}{w:World}{K:PySem.W.Frag}{mg:Str→Option Value}{base:Heap}{cl:Nat→Addr}(T:Tp K mg cl)(h:Def K mg (Str.ofString "in_wire_masks") bJ):ay P w K mg base cl 1 (Str.ofString "in_wire_masks") 4 cF:=by
 obtain⟨f,fd,F,hm⟩:=h
 exact⟨f,fd,_,bM (k:=0) lM.2 iy.2 F dz (fun cdv A outer s H E hr=>(av (bb dz.nd rfl (Or.inl rfl) (fA (bR aj))) (av (eA PassesOwn.never rfl (cH (tQ (aa 1) rfl T.z_enumerate)) (mS rfl (d3 (a_ dz.nd rfl (Or.inl rfl)) (d3 (a_ dz.nd rfl (Or.inl rfl)) lq))) (aP (eA PassesOwn.never rfl (cH (cm (aH (aH (aa 0) (aa 5) (fun _ _=>rfl)) af (fun _ _=>rfl)) rfl T.z_range)) (a_ dz.nd rfl (Or.inl rfl)) (aP (fH rfl (Or.inl rfl) (bY (t7 (bV AL (aU di rfl T.z_len PySem.boot_len (ab (aa 4) aj)) (aa 3) (by with_unfolding_all rfl)) (aL wa (aa 2) (aa 6)) (aa 6)))))))) (aP (cO (aM 4)))))),hm,F.kp,F.binds fun _ _ _ _ _ _ us hl=>match us,hl with | [_,_,_,_],_=>rfl⟩
noncomputable abbrev dm:Stmt:=top 5
noncomputable abbrev kA:List Str:=[(Str.ofString "wires"),(Str.ofString "numbers")]
noncomputable def se:{b:List Stmt // aq dm=b}:=by
 have e:aq dm=aq dm:=rfl
 conv at e=>rhs;whnf
 exact⟨_,e⟩
noncomputable def js:{b:Scope // ag dm=b}:=by
 have e:ag dm=ag dm:=rfl
 conv at e=>rhs;whnf
 exact⟨_,e⟩
theorem tP:aX kA [(Str.ofString "wires"),(Str.ofString "numbers")] js.1:=⟨rfl,rfl,rfl,by decide+kernel,rfl,by decide+kernel,by decide+kernel⟩
noncomputable def nq:FS:=(el (aK ee (au (eNew (jE (gB (ai 1)) (cy 0) sg (e2 cw (ai 1) (ai 0)) [(Str.ofString "number")] [0])) aI)))
noncomputable def dQ:List D→R D:=mH kA nq
theorem uk{P:Program}{w:World}{K:PySem.W.Frag}{mg:Str→Option Value}{base:Heap}{cl:Nat→Addr}(T:Tp K mg cl)(h:Def K mg (Str.ofString "masks_at") dm):Callee P w K mg base 1 (Str.ofString "masks_at") 2 dQ:=by
 obtain⟨f,fd,F,hm⟩:=h
 exact⟨f,fd,_,c8 (k:=0) se.2 js.2 F tP (fun cdv A outer s H E hr=>(bH (bO (fD lh rfl T.z_tuple PyProof.Rows.boot_tuple (ab (c7 (iF rfl (b_.of (own:=[(Str.ofString "number")]) (kp:=[0]) (kn:=[(Str.ofString "wires")]) (sc:=js.1) (N:=kA) rfl rfl (by decide+kernel)) (eR (aa 1)) (fun _ _ _=>(dC (show List.Nodup [(Str.ofString "number"),(Str.ofString "wires")] from by decide+kernel) rfl (Or.inl rfl))) (fun _ _ _=>gp) (fun _ _ _=>(aH (aa 1) (aa 0) (fun _ _=>rfl))))) aj))))),hm,F.kp,F.binds fun _ _ _ _ _ _ us hl=>match us,hl with | [_,_],_=>rfl⟩
noncomputable abbrev cC:Stmt:=top 6
noncomputable abbrev gd:List Str:=[(Str.ofString "net"),(Str.ofString "in_masks"),(Str.ofString "full"),(Str.ofString "turned"),(Str.ofString "bad"),(Str.ofString "wires"),(Str.ofString "place"),(Str.ofString "gate"),(Str.ofString "mask")]
noncomputable def oP:{b:List Stmt // aq cC=b}:=by
 have e:aq cC=aq cC:=rfl
 conv at e=>rhs;whnf
 exact⟨_,e⟩
noncomputable def j_:{b:Scope // ag cC=b}:=by
 have e:ag cC=ag cC:=rfl
 conv at e=>rhs;whnf
 exact⟨_,e⟩
theorem eZ:aX gd [(Str.ofString "net"),(Str.ofString "in_masks"),(Str.ofString "full"),(Str.ofString "turned"),(Str.ofString "bad")] j_.1:=⟨rfl,rfl,rfl,by decide+kernel,rfl,by decide+kernel,by decide+kernel⟩
noncomputable def gy:FZ:=(bo (cb 8 (xT (aK eH (au (e2 cw (ai 7) (eC (.int 0))) (au (aK dQ (au (ai 5) (au (e2 cw (ai 7) (eC (.int 1))) aI))) (au (ai 2) aI)))))) (iq 5 (xP (tq (b2 nc (ai 6) (ai 3)) (e2 zX (ai 2) (ai 8)) (ai 8)))))
noncomputable def iX:FZ:=(bo (cb 5 (bt cF (ax (xP (e2 cw (ai 0) (eC (.int 0)))) (ax (xP (ai 1)) (ax (xP (ai 2)) (ax (xP (ai 4)) bG)))))) (bo (jx (iP (nF (e2 cw (ai 0) (eC (.int 1))))) (vg 2 (qP (ic 6) (qP (ic 7) wg))) gy) (gb (bw 5))))
noncomputable def ke:List V3→aJ→R3 V3:=j6 gd iX
noncomputable def c5:List V3→aJ→R3 V3:=lA gd iX
theorem qN{P:Program}{w:World}{K:PySem.W.Frag}{mg:Str→Option Value}{base:Heap}{cl:Nat→Addr}(T:Tp K mg cl)(h:Def K mg (Str.ofString "wire_masks") cC)(C_masks_at:Callee P w K mg base 1 (Str.ofString "masks_at") 2 dQ)(C_gate_mask:Callee P w K mg base 2 (Str.ofString "gate_mask") 3 eH)(XK_in_wire_masks:ay P w K mg base cl 1 (Str.ofString "in_wire_masks") 4 cF):ay P w K mg base cl 3 (Str.ofString "wire_masks") 5 ke:=by
 obtain⟨f,fd,F,hm⟩:=h
 exact⟨f,fd,_,bM (k:=2) oP.2 j_.2 F eZ (fun cdv A outer s H E hr=>(av (bb eZ.nd rfl (Or.inl rfl) (aT XK_in_wire_masks hr (by decide) rfl (ah (ao (aH (aa 0) af (fun _ _=>rfl))) (ah (ao (aa 1)) (ah (ao (aa 2)) (ah (ao (aa 4)) aF)))) (ae (ae (ae (ae aB)))))) (av (eA PassesOwn.never rfl (cH (wb (aH (aa 0) af (fun _ _=>rfl)) rfl T.z_enumerate)) (mS rfl (d3 (a_ eZ.nd rfl (Or.inl rfl)) (d3 (a_ eZ.nd rfl (Or.inl rfl)) lq))) (av (bb eZ.nd rfl (Or.inl rfl) (bY (bW C_gate_mask hr (by decide) rfl (ab (aH (aa 7) af (fun _ _=>rfl)) (ab (bW C_masks_at hr (by decide) rfl (ab (aa 5) (ab (aH (aa 7) af (fun _ _=>rfl)) aj)) (aV (aV cx))) (ab (aa 2) aj))) (aV (aV (aV cx)))))) (aP (fH rfl (Or.inl rfl) (ao (t7 (bV AL (aa 6) (aa 3) (by with_unfolding_all rfl)) (aL wa (aa 2) (aa 8)) (aa 8))))))) (aP (cO (aM 5)))))),hm,F.kp,F.binds fun _ _ _ _ _ _ us hl=>match us,hl with | [_,_,_,_,_],_=>rfl⟩
noncomputable abbrev cS:Stmt:=top 7
noncomputable abbrev fS:List Str:=[(Str.ofString "net"),(Str.ofString "wires")]
noncomputable def qd:{b:List Stmt // aq cS=b}:=by
 have e:aq cS=aq cS:=rfl
 conv at e=>rhs;whnf
 exact⟨_,e⟩
noncomputable def iW:{b:Scope // ag cS=b}:=by
 have e:ag cS=ag cS:=rfl
 conv at e=>rhs;whnf
 exact⟨_,e⟩
theorem su:aX fS [(Str.ofString "net"),(Str.ofString "wires")] iW.1:=⟨rfl,rfl,rfl,by decide+kernel,rfl,by decide+kernel,by decide+kernel⟩
noncomputable def jH:FZ:=(gb (kP (jE (gB (e2 cw (ai 0) (eC (.int 2)))) (jb 2 (eW (cy 0) (eW (cy 1) je))) sg (aK dQ (au (ai 2) (au (ai 1) aI))) [(Str.ofString "name"),(Str.ofString "numbers")] [1])))
noncomputable def lx:List V3→aJ→R3 V3:=j6 fS jH
noncomputable def dt:List V3→aJ→R3 V3:=lA fS jH
theorem rp{P:Program}{w:World}{K:PySem.W.Frag}{mg:Str→Option Value}{base:Heap}{cl:Nat→Addr}(T:Tp K mg cl)(h:Def K mg (Str.ofString "out_masks") cS)(C_masks_at:Callee P w K mg base 1 (Str.ofString "masks_at") 2 dQ):ay P w K mg base cl 2 (Str.ofString "out_masks") 2 lx:=by
 obtain⟨f,fd,F,hm⟩:=h
 exact⟨f,fd,_,bM (k:=1) qd.2 iW.2 F su (fun cdv A outer s H E hr=>(aP (cO (fA (iF rfl (b_.of (own:=[(Str.ofString "name"),(Str.ofString "numbers")]) (kp:=[1]) (kn:=[(Str.ofString "wires")]) (sc:=iW.1) (N:=fS) rfl rfl (by decide+kernel)) (eR (aH (aa 0) af (fun _ _=>rfl))) (fun _ _ _=>(rS rfl (iJ (dC (show List.Nodup [(Str.ofString "name"),(Str.ofString "numbers"),(Str.ofString "wires")] from by decide+kernel) rfl (Or.inl rfl)) (iJ (dC (show List.Nodup [(Str.ofString "name"),(Str.ofString "numbers"),(Str.ofString "wires")] from by decide+kernel) rfl (Or.inl rfl)) pI)))) (fun _ _ _=>gp) (fun _ _ _=>(bW C_masks_at hr (by decide) rfl (ab (aa 2) (ab (aa 1) aj)) (aV (aV cx))))))))),hm,F.kp,F.binds fun _ _ _ _ _ _ us hl=>match us,hl with | [_,_],_=>rfl⟩
noncomputable abbrev k_:Stmt:=top 8
noncomputable abbrev vE:List Str:=[(Str.ofString "net"),(Str.ofString "bits"),(Str.ofString "turned"),(Str.ofString "bad")]
noncomputable def CV:{b:List Stmt // aq k_=b}:=by
 have e:aq k_=aq k_:=rfl
 conv at e=>rhs;whnf
 exact⟨_,e⟩
noncomputable def yf:{b:Scope // ag k_=b}:=by
 have e:ag k_=ag k_:=rfl
 conv at e=>rhs;whnf
 exact⟨_,e⟩
theorem Er:aX vE [(Str.ofString "net"),(Str.ofString "bits"),(Str.ofString "turned"),(Str.ofString "bad")] yf.1:=⟨rfl,rfl,rfl,by decide+kernel,rfl,by decide+kernel,by decide+kernel⟩
noncomputable def zm:FZ:=(gb (bt dt (ax (xP (ai 0)) (ax (bt c5 (ax (xP (ai 0)) (ax (xP (ai 1)) (ax (xP (eC (.int 1))) (ax (xP (ai 2)) (ax (xP (ai 3)) bG)))))) bG))))
noncomputable def zc:List V3→aJ→R3 V3:=j6 vE zm
noncomputable def nJ:List V3→aJ→R3 V3:=lA vE zm
theorem FF{P:Program}{w:World}{K:PySem.W.Frag}{mg:Str→Option Value}{base:Heap}{cl:Nat→Addr}(T:Tp K mg cl)(h:Def K mg (Str.ofString "run") k_)(XP_out_masks:ay P w K mg base cl 2 (Str.ofString "out_masks") 2 dt)(XP_wire_masks:ay P w K mg base cl 3 (Str.ofString "wire_masks") 5 c5):ay P w K mg base cl 4 (Str.ofString "run") 4 zc:=by
 obtain⟨f,fd,F,hm⟩:=h
 exact⟨f,fd,_,bM (k:=3) CV.2 yf.2 F Er (fun cdv A outer s H E hr=>(aP (cO (aT XP_out_masks hr (by decide) rfl (ah (ao (aa 0)) (ah (aT XP_wire_masks hr (by decide) rfl (ah (ao (aa 0)) (ah (ao (aa 1)) (ah (ao af) (ah (ao (aa 2)) (ah (ao (aa 3)) aF))))) (ae (ae (ae (ae (ae aB)))))) aF)) (ae (ae aB)))))),hm,F.kp,F.binds fun _ _ _ _ _ _ us hl=>match us,hl with | [_,_,_,_],_=>rfl⟩
noncomputable abbrev dW:Stmt:=top 9
noncomputable abbrev jY:List Str:=[(Str.ofString "masks"),(Str.ofString "full"),(Str.ofString "ones")]
noncomputable def ux:{b:List Stmt // aq dW=b}:=by
 have e:aq dW=aq dW:=rfl
 conv at e=>rhs;whnf
 exact⟨_,e⟩
noncomputable def ot:{b:Scope // ag dW=b}:=by
 have e:ag dW=ag dW:=rfl
 conv at e=>rhs;whnf
 exact⟨_,e⟩
theorem pV:aX jY [(Str.ofString "masks"),(Str.ofString "full")] ot.1:=⟨rfl,rfl,rfl,by decide+kernel,rfl,by decide+kernel,by decide+kernel⟩
noncomputable def pR:FS:=(eN (nU (b2 ik (aK cK (au (ai 0) aI)) (eC (.int 2))) (el (dv (au (e2 zX (ai 1) (e2 C5 (e2 cw (ai 0) (eC (.int 0))) (e2 cw (ai 0) (eC (.int 1))))) (au (e2 zQ (e2 cw (ai 0) (eC (.int 0))) (e2 cw (ai 0) (eC (.int 1)))) aI)))) i9) (eN (iI 2 (tq (b2 ik (aK cK (au (ai 0) aI)) (eC (.int 1))) (e2 cw (ai 0) (eC (.int 0))) (aK eM (au (ai 0) aI)))) (el (dv (au (e2 zX (ai 1) (ai 2)) (au (ai 2) aI))))))
noncomputable def eL:List D→R D:=mH jY pR
theorem wW{P:Program}{w:World}{K:PySem.W.Frag}{mg:Str→Option Value}{base:Heap}{cl:Nat→Addr}(T:Tp K mg cl)(h:Def K mg (Str.ofString "reading") dW)(C_vote_of:Callee P w K mg base 1 (Str.ofString "vote_of") 1 eM):Callee P w K mg base 2 (Str.ofString "reading") 2 eL:=by
 obtain⟨f,fd,F,hm⟩:=h
 exact⟨f,fd,_,c8 (k:=1) ux.2 ot.2 F pV (fun cdv A outer s H E hr=>(cu (gO (bV (jk hr.units) (aU di rfl T.z_len PySem.boot_len (ab (aa 0) aj)) af (bX _)) (bH (bO (bC (ab (aL wa (aa 1) (aL zO (aH (aa 0) af (fun _ _=>rfl)) (aH (aa 0) af (fun _ _=>rfl)))) (ab (aL wQ (aH (aa 0) af (fun _ _=>rfl)) (aH (aa 0) af (fun _ _=>rfl))) aj))))) fR) (cu (iA pV.nd rfl (Or.inl rfl) (t7 (bV (jk hr.units) (aU di rfl T.z_len PySem.boot_len (ab (aa 0) aj)) af (bX _)) (aH (aa 0) af (fun _ _=>rfl)) (bW C_vote_of hr (by decide) rfl (ab (aa 0) aj) (aV cx)))) (bH (bO (bC (ab (aL wa (aa 1) (aa 2)) (ab (aa 2) aj)))))))),hm,F.kp,F.binds fun _ _ _ _ _ _ us hl=>match us,hl with | [_,_],_=>rfl⟩
noncomputable abbrev eO:Stmt:=top 10
noncomputable abbrev rA:List Str:=[(Str.ofString "mask"),(Str.ofString "number")]
noncomputable def wV:{b:List Stmt // aq eO=b}:=by
 have e:aq eO=aq eO:=rfl
 conv at e=>rhs;whnf
 exact⟨_,e⟩
noncomputable def pS:{b:Scope // ag eO=b}:=by
 have e:ag eO=ag eO:=rfl
 conv at e=>rhs;whnf
 exact⟨_,e⟩
theorem xy:aX rA [(Str.ofString "mask"),(Str.ofString "number")] pS.1:=⟨rfl,rfl,rfl,by decide+kernel,rfl,by decide+kernel,by decide+kernel⟩
noncomputable def sI:FS:=(el (e2 zQ (e2 lD (ai 0) (ai 1)) (eC (.int 1))))
noncomputable def eT:List D→R D:=mH rA sI
theorem zd{P:Program}{w:World}{K:PySem.W.Frag}{mg:Str→Option Value}{base:Heap}{cl:Nat→Addr}(T:Tp K mg cl)(h:Def K mg (Str.ofString "bit_at") eO):Callee P w K mg base 1 (Str.ofString "bit_at") 2 eT:=by
 obtain⟨f,fd,F,hm⟩:=h
 exact⟨f,fd,_,c8 (k:=0) wV.2 pS.2 F xy (fun cdv A outer s H E hr=>(bH (bO (aL wQ (aL EC (aa 0) (aa 1)) af)))),hm,F.kp,F.binds fun _ _ _ _ _ _ us hl=>match us,hl with | [_,_],_=>rfl⟩
noncomputable abbrev dY:Stmt:=top 11
noncomputable abbrev ij:List Str:=[(Str.ofString "masks"),(Str.ofString "number")]
noncomputable def ue:{b:List Stmt // aq dY=b}:=by
 have e:aq dY=aq dY:=rfl
 conv at e=>rhs;whnf
 exact⟨_,e⟩
noncomputable def n0:{b:Scope // ag dY=b}:=by
 have e:ag dY=ag dY:=rfl
 conv at e=>rhs;whnf
 exact⟨_,e⟩
theorem wt:aX ij [(Str.ofString "masks"),(Str.ofString "number")] n0.1:=⟨rfl,rfl,rfl,by decide+kernel,rfl,by decide+kernel,by decide+kernel⟩
noncomputable def pJ:FS:=(eN (nU (b2 ik (aK eT (au (e2 cw (ai 0) (eC (.int 0))) (au (ai 1) aI))) (eC (.int 1))) (el (eC (.int 0))) i9) (eN (nU (b2 ik (aK eT (au (e2 cw (ai 0) (eC (.int 1))) (au (ai 1) aI))) (eC (.int 1))) (el (eC (.int 1))) i9) (el (eC .cD))))
noncomputable def eJ:List D→R D:=mH ij pJ
theorem we{P:Program}{w:World}{K:PySem.W.Frag}{mg:Str→Option Value}{base:Heap}{cl:Nat→Addr}(T:Tp K mg cl)(h:Def K mg (Str.ofString "read_at") dY)(C_bit_at:Callee P w K mg base 1 (Str.ofString "bit_at") 2 eT):Callee P w K mg base 2 (Str.ofString "read_at") 2 eJ:=by
 obtain⟨f,fd,F,hm⟩:=h
 exact⟨f,fd,_,c8 (k:=1) ue.2 n0.2 F wt (fun cdv A outer s H E hr=>(cu (gO (bV (jk hr.units) (bW C_bit_at hr (by decide) rfl (ab (aH (aa 0) af (fun _ _=>rfl)) (ab (aa 1) aj)) (aV (aV cx))) af (bX _)) (bH (bO af)) fR) (cu (gO (bV (jk hr.units) (bW C_bit_at hr (by decide) rfl (ab (aH (aa 0) af (fun _ _=>rfl)) (ab (aa 1) aj)) (aV (aV cx))) af (bX _)) (bH (bO af)) fR) (bH (bO z_))))),hm,F.kp,F.binds fun _ _ _ _ _ _ us hl=>match us,hl with | [_,_],_=>rfl⟩
noncomputable abbrev i5:Stmt:=top 12
noncomputable abbrev zx:List Str:=[(Str.ofString "bits")]
noncomputable def A_:{b:List Stmt // aq i5=b}:=by
 have e:aq i5=aq i5:=rfl
 conv at e=>rhs;whnf
 exact⟨_,e⟩
noncomputable def ve:{b:Scope // ag i5=b}:=by
 have e:ag i5=ag i5:=rfl
 conv at e=>rhs;whnf
 exact⟨_,e⟩
theorem DU:aX zx [(Str.ofString "bits")] ve.1:=⟨rfl,rfl,rfl,by decide+kernel,rfl,by decide+kernel,by decide+kernel⟩
noncomputable def yD:FS:=(el (aK eJ (au (aK eL (au (ai 0) (au (eC (.int 1)) aI))) (au (eC (.int 0)) aI))))
noncomputable def lH:List D→R D:=mH zx yD
theorem Ds{P:Program}{w:World}{K:PySem.W.Frag}{mg:Str→Option Value}{base:Heap}{cl:Nat→Addr}(T:Tp K mg cl)(h:Def K mg (Str.ofString "told") i5)(C_reading:Callee P w K mg base 2 (Str.ofString "reading") 2 eL)(C_read_at:Callee P w K mg base 2 (Str.ofString "read_at") 2 eJ):Callee P w K mg base 3 (Str.ofString "told") 1 lH:=by
 obtain⟨f,fd,F,hm⟩:=h
 exact⟨f,fd,_,c8 (k:=2) A_.2 ve.2 F DU (fun cdv A outer s H E hr=>(bH (bO (bW C_read_at hr (by decide) rfl (ab (bW C_reading hr (by decide) rfl (ab (aa 0) (ab af aj)) (aV (aV cx))) (ab af aj)) (aV (aV cx)))))),hm,F.kp,F.binds fun _ _ _ _ _ _ us hl=>match us,hl with | [_],_=>rfl⟩
noncomputable abbrev cA:Stmt:=top 13
noncomputable abbrev gf:List Str:=[(Str.ofString "count"),(Str.ofString "inputs"),(Str.ofString "place"),(Str.ofString "longer"),(Str.ofString "bits")]
noncomputable def oS:{b:List Stmt // aq cA=b}:=by
 have e:aq cA=aq cA:=rfl
 conv at e=>rhs;whnf
 exact⟨_,e⟩
noncomputable def j8:{b:Scope // ag cA=b}:=by
 have e:ag cA=ag cA:=rfl
 conv at e=>rhs;whnf
 exact⟨_,e⟩
theorem dZ:aX gf [(Str.ofString "count")] j8.1:=⟨rfl,rfl,rfl,by decide+kernel,rfl,by decide+kernel,by decide+kernel⟩
noncomputable def jw:FZ:=(bo (iq 3 (xP (e2 n_ (ai 4) (dv (au (eC (.int 0)) aI))))) (iq 3 (xP (e2 n_ (ai 4) (dv (au (eC (.int 1)) aI))))))
noncomputable def jz:FZ:=(xG 1 (bo (cb 3 (kP (dE aI))) (bo (jx (iP (gB (ai 1))) (ic 4) jw) (cb 1 (bw 3)))))
noncomputable def i8:FZ:=(bo (cb 1 (kP (dE (au (dv aI) aI)))) (bo (jx (iP (eg (ai 0))) (ic 2) jz) (gb (bw 1))))
noncomputable def j4:List V3→aJ→R3 V3:=j6 gf i8
noncomputable def er:List V3→aJ→R3 V3:=lA gf i8
theorem qG{P:Program}{w:World}{K:PySem.W.Frag}{mg:Str→Option Value}{base:Heap}{cl:Nat→Addr}(T:Tp K mg cl)(h:Def K mg (Str.ofString "all_inputs") cA):ay P w K mg base cl 1 (Str.ofString "all_inputs") 1 j4:=by
 obtain⟨f,fd,F,hm⟩:=h
 exact⟨f,fd,_,bM (k:=0) oS.2 j8.2 F dZ (fun cdv A outer s H E hr=>(av (bb dZ.nd rfl (Or.inl rfl) (fA (bR (ab (bC aj) aj)))) (av (eA PassesOwn.never rfl (cH (cm (aa 0) rfl T.z_range)) (a_ dZ.nd rfl (Or.inl rfl)) (Ac 1 (av (bb dZ.nd rfl (Or.inl rfl) (fA (bR aj))) (av (eA PassesOwn.never rfl (cH (eR (aa 1))) (a_ dZ.nd rfl (Or.inl rfl)) (av (fH rfl (Or.inl rfl) (ao (aL uc (aa 4) (bC (ab af aj))))) (aP (fH rfl (Or.inl rfl) (ao (aL uc (aa 4) (bC (ab af aj)))))))) (aP (bb dZ.nd rfl (Or.inl rfl) (aM 3))))))) (aP (cO (aM 1)))))),hm,F.kp,F.binds fun _ _ _ _ _ _ us hl=>match us,hl with | [_],_=>rfl⟩
noncomputable abbrev d4:Stmt:=top 14
noncomputable abbrev lL:List Str:=[(Str.ofString "bits"),(Str.ofString "mask"),(Str.ofString "bit")]
noncomputable def tT:{b:List Stmt // aq d4=b}:=by
 have e:aq d4=aq d4:=rfl
 conv at e=>rhs;whnf
 exact⟨_,e⟩
noncomputable def nj:{b:Scope // ag d4=b}:=by
 have e:ag d4=ag d4:=rfl
 conv at e=>rhs;whnf
 exact⟨_,e⟩
theorem j2:aX lL [(Str.ofString "bits")] nj.1:=⟨rfl,rfl,rfl,by decide+kernel,rfl,by decide+kernel,by decide+kernel⟩
noncomputable def jt:FS:=(iI 1 (e2 dH (e2 km (ai 1) (eC (.int 2))) (ai 2)))
noncomputable def pG:FS:=(eN (iI 1 (eC (.int 0))) (eN (v_ (BN (ai 0)) (cy 2) jt) (el (ai 1))))
noncomputable def eK:List D→R D:=mH lL pG
theorem wx{P:Program}{w:World}{K:PySem.W.Frag}{mg:Str→Option Value}{base:Heap}{cl:Nat→Addr}(T:Tp K mg cl)(h:Def K mg (Str.ofString "mask_of") d4):Callee P w K mg base 1 (Str.ofString "mask_of") 1 eK:=by
 obtain⟨f,fd,F,hm⟩:=h
 exact⟨f,fd,_,c8 (k:=0) tT.2 nj.2 F j2 (fun cdv A outer s H E hr=>(cu (iA j2.nd rfl (Or.inl rfl) af) (cu (sN PassesOwn.never rfl (xX (aa 0) rfl T.z_reversed) (dC j2.nd rfl (Or.inl rfl)) (bH (iA j2.nd rfl (Or.inl rfl) (aL ft (aL rN (aa 1) af) (aa 2))))) (bH (bO (aa 1)))))),hm,F.kp,F.binds fun _ _ _ _ _ _ us hl=>match us,hl with | [_],_=>rfl⟩
noncomputable abbrev dX:Stmt:=top 15
noncomputable abbrev lU:List Str:=[(Str.ofString "inputs"),(Str.ofString "place")]
noncomputable def tf:{b:List Stmt // aq dX=b}:=by
 have e:aq dX=aq dX:=rfl
 conv at e=>rhs;whnf
 exact⟨_,e⟩
noncomputable def kM:{b:Scope // ag dX=b}:=by
 have e:ag dX=ag dX:=rfl
 conv at e=>rhs;whnf
 exact⟨_,e⟩
theorem wH:aX lU [(Str.ofString "inputs"),(Str.ofString "place")] kM.1:=⟨rfl,rfl,rfl,by decide+kernel,rfl,by decide+kernel,by decide+kernel⟩
noncomputable def px:FS:=(el (aK eK (au (eNew (jE (gB (ai 0)) (cy 0) sg (e2 cw (ai 0) (ai 1)) [(Str.ofString "bits")] [1])) aI)))
noncomputable def gh:List D→R D:=mH lU px
theorem wF{P:Program}{w:World}{K:PySem.W.Frag}{mg:Str→Option Value}{base:Heap}{cl:Nat→Addr}(T:Tp K mg cl)(h:Def K mg (Str.ofString "in_mask") dX)(C_mask_of:Callee P w K mg base 1 (Str.ofString "mask_of") 1 eK):Callee P w K mg base 2 (Str.ofString "in_mask") 2 gh:=by
 obtain⟨f,fd,F,hm⟩:=h
 exact⟨f,fd,_,c8 (k:=1) tf.2 kM.2 F wH (fun cdv A outer s H E hr=>(bH (bO (bW C_mask_of hr (by decide) rfl (ab (c7 (iF rfl (b_.of (own:=[(Str.ofString "bits")]) (kp:=[1]) (kn:=[(Str.ofString "place")]) (sc:=kM.1) (N:=lU) rfl rfl (by decide+kernel)) (eR (aa 0)) (fun _ _ _=>(dC (show List.Nodup [(Str.ofString "bits"),(Str.ofString "place")] from by decide+kernel) rfl (Or.inl rfl))) (fun _ _ _=>gp) (fun _ _ _=>(aH (aa 0) (aa 1) (fun _ _=>rfl))))) aj) (aV cx))))),hm,F.kp,F.binds fun _ _ _ _ _ _ us hl=>match us,hl with | [_,_],_=>rfl⟩
noncomputable abbrev aY:Stmt:=inClass (top 16) 0
noncomputable abbrev cE:List Str:=[(Str.ofString "self"),(Str.ofString "net"),(Str.ofString "inputs")]
noncomputable def k7:{b:List Stmt // aq aY=b}:=by
 have e:aq aY=aq aY:=rfl
 conv at e=>rhs;whnf
 exact⟨_,e⟩
noncomputable def dF:{b:Scope // ag aY=b}:=by
 have e:ag aY=ag aY:=rfl
 conv at e=>rhs;whnf
 exact⟨_,e⟩
theorem il:aX cE [(Str.ofString "self"),(Str.ofString "net")] dF.1:=⟨rfl,rfl,rfl,by decide+kernel,rfl,by decide+kernel,by decide+kernel⟩
noncomputable def fL:FZ:=(bo (cb 2 (bt er (ax (xP (aK cK (au (e2 cw (ai 1) (eC (.int 0))) aI))) bG))) (bo (wm 0 (Str.ofString "net") (bw 0) (xP (ai 1))) (bo (wm 0 (Str.ofString "many_inputs") (bw 0) (xP (aK cK (au (ai 2) aI)))) (bo (wm 0 (Str.ofString "full") (bw 0) (xP (aK eK (au (eNew (jE (gB (ai 2)) (cy 0) sg (eC (.int 1)) [(Str.ofString "bits")] [])) aI)))) (wm 0 (Str.ofString "in_masks") (bw 0) (xP (eNew (jE (eg (aK cK (au (e2 cw (ai 1) (eC (.int 0))) aI))) (cy 0) sg (aK gh (au (ai 1) (au (ai 0) aI))) [(Str.ofString "place")] [2]))))))))
noncomputable def bA:List V3→aJ→R3 V3:=j6 cE fL
noncomputable def vT:List V3→aJ→R3 V3:=lA cE fL
theorem de{P:Program}{w:World}{K:PySem.W.Frag}{mg:Str→Option Value}{base:Heap}{cl:Nat→Addr}(T:Tp K mg cl)(h:DO K (cl 0) (Str.ofString "__init__") (Str.ofString "Bench.__init__") aY)(C_mask_of:Callee P w K mg base 1 (Str.ofString "mask_of") 1 eK)(C_in_mask:Callee P w K mg base 2 (Str.ofString "in_mask") 2 gh)(XP_all_inputs:ay P w K mg base cl 1 (Str.ofString "all_inputs") 1 er):rO P w K mg base cl 3 0 (Str.ofString "Bench") 1 bA:=by
 obtain⟨f,fd,F,hm⟩:=h
 exact⟨f,fd,_,hm,bM (k:=2) k7.2 dF.2 F il (fun cdv A outer s H E hr=>(av (bb il.nd rfl (Or.inr rfl) (aT XP_all_inputs hr (by decide) rfl (ah (ao (aU di rfl T.z_len PySem.boot_len (ab (aH (aa 1) af (fun _ _=>rfl)) aj))) aF) (ae aB))) (av (qr T.C_Bench T.N_Bench_net (aM 0) (ao (aa 1))) (av (qr T.C_Bench T.N_Bench_many_inputs (aM 0) (ao (aU di rfl T.z_len PySem.boot_len (ab (aa 2) aj)))) (av (qr T.C_Bench T.N_Bench_full (aM 0) (ao (bW C_mask_of hr (by decide) rfl (ab (c7 (iF rfl (b_.of (own:=[(Str.ofString "bits")]) (kp:=[]) (kn:=[]) (sc:=dF.1) (N:=cE) rfl rfl (by decide+kernel)) (eR (aa 2)) (fun _ _ _=>(dC (show List.Nodup [(Str.ofString "bits")] from by decide+kernel) rfl (Or.inl rfl))) (fun _ _ _=>gp) (fun _ _ _=>af))) aj) (aV cx)))) (aP (qr T.C_Bench T.N_Bench_in_masks (aM 0) (ao (c7 (iF rfl (b_.of (own:=[(Str.ofString "place")]) (kp:=[2]) (kn:=[(Str.ofString "inputs")]) (sc:=dF.1) (N:=cE) rfl rfl (by decide+kernel)) (cm (aU di rfl T.z_len PySem.boot_len (ab (aH (aa 1) af (fun _ _=>rfl)) aj)) rfl T.z_range) (fun _ _ _=>(dC (show List.Nodup [(Str.ofString "place"),(Str.ofString "inputs")] from by decide+kernel) rfl (Or.inl rfl))) (fun _ _ _=>gp) (fun _ _ _=>(bW C_in_mask hr (by decide) rfl (ab (aa 1) (ab (aa 0) aj)) (aV (aV cx)))))))))))))),T.M_Bench,F.binds fun _ _ _ _ _ _ us hl=>match us,hl with | [_,_],_=>rfl⟩
noncomputable abbrev bq:Stmt:=inClass (top 16) 1
noncomputable abbrev fO:List Str:=[(Str.ofString "self"),(Str.ofString "turned"),(Str.ofString "bad")]
noncomputable def ny:{b:List Stmt // aq bq=b}:=by
 have e:aq bq=aq bq:=rfl
 conv at e=>rhs;whnf
 exact⟨_,e⟩
noncomputable def jP:{b:Scope // ag bq=b}:=by
 have e:ag bq=ag bq:=rfl
 conv at e=>rhs;whnf
 exact⟨_,e⟩
theorem oK:aX fO [(Str.ofString "self"),(Str.ofString "turned"),(Str.ofString "bad")] jP.1:=⟨rfl,rfl,rfl,by decide+kernel,rfl,by decide+kernel,by decide+kernel⟩
noncomputable def hJ:FZ:=(gb (bt dt (ax (qu 0 (Str.ofString "net") (bw 0)) (ax (bt c5 (ax (qu 0 (Str.ofString "net") (bw 0)) (ax (qu 0 (Str.ofString "in_masks") (bw 0)) (ax (qu 0 (Str.ofString "full") (bw 0)) (ax (xP (ai 1)) (ax (xP (ai 2)) bG)))))) bG))))
noncomputable def jJ:List V3→aJ→R3 V3:=j6 fO hJ
noncomputable def dI:List V3→aJ→R3 V3:=lA fO hJ
theorem ei{P:Program}{w:World}{K:PySem.W.Frag}{mg:Str→Option Value}{base:Heap}{cl:Nat→Addr}(T:Tp K mg cl)(h:qj K (cl 0) (Str.ofString "tells") (Str.ofString "Bench.tells") bq)(XP_out_masks:ay P w K mg base cl 2 (Str.ofString "out_masks") 2 dt)(XP_wire_masks:ay P w K mg base cl 3 (Str.ofString "wire_masks") 5 c5):fT P w K mg base cl 4 0 (Str.ofString "tells") 2 jJ:=by
 obtain⟨f,fd,F,hm⟩:=h
 exact⟨f,fd,_,T.C_Bench,hm,bM (k:=3) ny.2 jP.2 F oK (fun cdv A outer s H E hr=>(aP (cO (aT XP_out_masks hr (by decide) rfl (ah (kx T.C_Bench T.N_Bench_net (aM 0)) (ah (aT XP_wire_masks hr (by decide) rfl (ah (kx T.C_Bench T.N_Bench_net (aM 0)) (ah (kx T.C_Bench T.N_Bench_in_masks (aM 0)) (ah (kx T.C_Bench T.N_Bench_full (aM 0)) (ah (ao (aa 1)) (ah (ao (aa 2)) aF))))) (ae (ae (ae (ae (ae aB)))))) aF)) (ae (ae aB)))))),F.binds fun _ _ _ _ _ _ us hl=>match us,hl with | [_,_,_],_=>rfl⟩
noncomputable abbrev aZ:Stmt:=inClass (top 16) 2
noncomputable abbrev c_:List Str:=[(Str.ofString "self"),(Str.ofString "turned")]
noncomputable def lp:{b:List Stmt // aq aZ=b}:=by
 have e:aq aZ=aq aZ:=rfl
 conv at e=>rhs;whnf
 exact⟨_,e⟩
noncomputable def e_:{b:Scope // ag aZ=b}:=by
 have e:ag aZ=ag aZ:=rfl
 conv at e=>rhs;whnf
 exact⟨_,e⟩
theorem lN:aX c_ [(Str.ofString "self"),(Str.ofString "turned")] e_.1:=⟨rfl,rfl,rfl,by decide+kernel,rfl,by decide+kernel,by decide+kernel⟩
noncomputable def fI:FZ:=(gb (f9 (y0 (o8 0 (Str.ofString "tells") dI (bw 0) (ax (xP (ai 1)) (ax (xP (dv aI)) bG)))) (ic 0) o4 (lB eL (ax (xP (ai 0)) (ax (qu 0 (Str.ofString "full") (bw 1)) bG))) [(Str.ofString "masks")] [0]))
noncomputable def gI:List V3→aJ→R3 V3:=j6 c_ fI
noncomputable def bQ:List V3→aJ→R3 V3:=lA c_ fI
theorem dc{P:Program}{w:World}{K:PySem.W.Frag}{mg:Str→Option Value}{base:Heap}{cl:Nat→Addr}(T:Tp K mg cl)(h:qj K (cl 0) (Str.ofString "readings") (Str.ofString "Bench.readings") aZ)(C_reading:Callee P w K mg base 2 (Str.ofString "reading") 2 eL)(XP_Bench_tells:fT P w K mg base cl 4 0 (Str.ofString "tells") 2 dI):fT P w K mg base cl 5 0 (Str.ofString "readings") 1 gI:=by
 obtain⟨f,fd,F,hm⟩:=h
 exact⟨f,fd,_,T.C_Bench,hm,bM (k:=4) lp.2 e_.2 F lN (fun cdv A outer s H E hr=>(aP (cO (jZ rfl (b_.of (own:=[(Str.ofString "masks")]) (kp:=[0]) (kn:=[(Str.ofString "self")]) (sc:=e_.1) (N:=c_) rfl rfl (by decide+kernel)) (qD (mV XP_Bench_tells hr (by decide) (aM 0) (ah (ao (aa 1)) (ah (ao (bC aj)) aF)) (ae (ae aB)))) (fun _ _ _=>(a_ (show List.Nodup [(Str.ofString "masks"),(Str.ofString "self")] from by decide+kernel) rfl (Or.inl rfl))) (fun _ _ _=>eF) (fun _ _ _=>(xH C_reading hr (by decide) rfl (ah (ao (aa 0)) (ah (kx T.C_Bench T.N_Bench_full (aM 1)) aF)) (ae (ae aB)))))))),F.binds fun _ _ _ _ _ _ us hl=>match us,hl with | [_,_],_=>rfl⟩
noncomputable abbrev du:Stmt:=top 17
noncomputable abbrev gA:List Str:=[(Str.ofString "net"),(Str.ofString "bench")]
noncomputable def rB:{b:List Stmt // aq du=b}:=by
 have e:aq du=aq du:=rfl
 conv at e=>rhs;whnf
 exact⟨_,e⟩
noncomputable def jr:{b:Scope // ag du=b}:=by
 have e:ag du=ag du:=rfl
 conv at e=>rhs;whnf
 exact⟨_,e⟩
theorem n6:aX gA [(Str.ofString "net")] jr.1:=⟨rfl,rfl,rfl,by decide+kernel,rfl,by decide+kernel,by decide+kernel⟩
noncomputable def kC:FZ:=(bo (cb 1 (vR 0 bA (ax (xP (ai 0)) bG))) (gb (lB Dp (ax (f9 (y0 (o8 0 (Str.ofString "readings") bQ (bw 1) (ax (xP (dv aI)) bG))) (ic 0) o4 (x2 ik (xP (e2 C5 (e2 cw (ai 0) (eC (.int 0))) (e2 cw (ai 0) (eC (.int 1))))) (qu 0 (Str.ofString "full") (bw 1))) [(Str.ofString "masks")] [1]) bG))))
noncomputable def mw:List V3→aJ→R3 V3:=j6 gA kC
noncomputable def fP:List V3→aJ→R3 V3:=lA gA kC
theorem uh{P:Program}{w:World}{K:PySem.W.Frag}{mg:Str→Option Value}{base:Heap}{cl:Nat→Addr}(T:Tp K mg cl)(h:Def K mg (Str.ofString "is_sound") du)(XK_Bench___init__:rO P w K mg base cl 3 0 (Str.ofString "Bench") 1 bA)(XP_Bench_readings:fT P w K mg base cl 5 0 (Str.ofString "readings") 1 bQ):ay P w K mg base cl 6 (Str.ofString "is_sound") 1 mw:=by
 obtain⟨f,fd,F,hm⟩:=h
 exact⟨f,fd,_,bM (k:=5) rB.2 jr.2 F n6 (fun cdv A outer s H E hr=>(av (bb n6.nd rfl (Or.inr rfl) (vL XK_Bench___init__ hr (by decide) rfl (ah (ao (aa 0)) aF) (ae aB))) (aP (cO (zM (Ex rfl) rfl T.z_all PyProof.Rows.boot_all (ah (jZ rfl (b_.of (own:=[(Str.ofString "masks")]) (kp:=[1]) (kn:=[(Str.ofString "bench")]) (sc:=jr.1) (N:=gA) rfl rfl (by decide+kernel)) (qD (mV XP_Bench_readings hr (by decide) (aM 1) (ah (ao (bC aj)) aF) (ae aB))) (fun _ _ _=>(a_ (show List.Nodup [(Str.ofString "masks"),(Str.ofString "bench")] from by decide+kernel) rfl (Or.inl rfl))) (fun _ _ _=>eF) (fun _ _ _=>(qF (jk hr.units) (ao (aL zO (aH (aa 0) af (fun _ _=>rfl)) (aH (aa 0) af (fun _ _=>rfl)))) (kx T.C_Bench T.N_Bench_full (aM 1)) (bX _)))) aF)))))),hm,F.kp,F.binds fun _ _ _ _ _ _ us hl=>match us,hl with | [_],_=>rfl⟩
noncomputable abbrev bj:Stmt:=inClass (top 16) 3
noncomputable abbrev dJ:List Str:=[(Str.ofString "self"),(Str.ofString "masks")]
noncomputable def mN:{b:List Stmt // aq bj=b}:=by
 have e:aq bj=aq bj:=rfl
 conv at e=>rhs;whnf
 exact⟨_,e⟩
noncomputable def fY:{b:Scope // ag bj=b}:=by
 have e:ag bj=ag bj:=rfl
 conv at e=>rhs;whnf
 exact⟨_,e⟩
theorem nB:aX dJ [(Str.ofString "self"),(Str.ofString "masks")] fY.1:=⟨rfl,rfl,rfl,by decide+kernel,rfl,by decide+kernel,by decide+kernel⟩
noncomputable def gr:FZ:=(gb (f9 (kh (qu 0 (Str.ofString "many_inputs") (bw 0))) (ic 0) o4 (xP (aK eJ (au (ai 1) (au (ai 0) aI)))) [(Str.ofString "number")] [1]))
noncomputable def jg:List V3→aJ→R3 V3:=j6 dJ gr
noncomputable def dy:List V3→aJ→R3 V3:=lA dJ gr
theorem dP{P:Program}{w:World}{K:PySem.W.Frag}{mg:Str→Option Value}{base:Heap}{cl:Nat→Addr}(T:Tp K mg cl)(h:qj K (cl 0) (Str.ofString "column") (Str.ofString "Bench.column") bj)(C_read_at:Callee P w K mg base 2 (Str.ofString "read_at") 2 eJ):fT P w K mg base cl 3 0 (Str.ofString "column") 1 jg:=by
 obtain⟨f,fd,F,hm⟩:=h
 exact⟨f,fd,_,T.C_Bench,hm,bM (k:=2) mN.2 fY.2 F nB (fun cdv A outer s H E hr=>(aP (cO (jZ rfl (b_.of (own:=[(Str.ofString "number")]) (kp:=[1]) (kn:=[(Str.ofString "masks")]) (sc:=fY.1) (N:=dJ) rfl rfl (by decide+kernel)) (fE (kx T.C_Bench T.N_Bench_many_inputs (aM 0)) rfl T.z_range) (fun _ _ _=>(a_ (show List.Nodup [(Str.ofString "number"),(Str.ofString "masks")] from by decide+kernel) rfl (Or.inl rfl))) (fun _ _ _=>eF) (fun _ _ _=>(ao (bW C_read_at hr (by decide) rfl (ab (aa 1) (ab (aa 0) aj)) (aV (aV cx))))))))),F.binds fun _ _ _ _ _ _ us hl=>match us,hl with | [_,_],_=>rfl⟩
noncomputable abbrev d9:Stmt:=top 18
noncomputable abbrev ig:List Str:=[(Str.ofString "net"),(Str.ofString "bench")]
noncomputable def tZ:{b:List Stmt // aq d9=b}:=by
 have e:aq d9=aq d9:=rfl
 conv at e=>rhs;whnf
 exact⟨_,e⟩
noncomputable def kE:{b:Scope // ag d9=b}:=by
 have e:ag d9=ag d9:=rfl
 conv at e=>rhs;whnf
 exact⟨_,e⟩
theorem pW:aX ig [(Str.ofString "net")] kE.1:=⟨rfl,rfl,rfl,by decide+kernel,rfl,by decide+kernel,by decide+kernel⟩
noncomputable def lR:FZ:=(bo (cb 1 (vR 0 bA (ax (xP (ai 0)) bG))) (gb (f9 (y0 (o8 0 (Str.ofString "readings") bQ (bw 1) (ax (xP (dv aI)) bG))) (ic 0) o4 (o8 0 (Str.ofString "column") dy (bw 1) (ax (xP (ai 0)) bG)) [(Str.ofString "masks")] [1])))
noncomputable def nS:List V3→aJ→R3 V3:=j6 ig lR
noncomputable def fF:List V3→aJ→R3 V3:=lA ig lR
theorem wy{P:Program}{w:World}{K:PySem.W.Frag}{mg:Str→Option Value}{base:Heap}{cl:Nat→Addr}(T:Tp K mg cl)(h:Def K mg (Str.ofString "columns") d9)(XK_Bench___init__:rO P w K mg base cl 3 0 (Str.ofString "Bench") 1 bA)(XP_Bench_readings:fT P w K mg base cl 5 0 (Str.ofString "readings") 1 bQ)(XP_Bench_column:fT P w K mg base cl 3 0 (Str.ofString "column") 1 dy):ay P w K mg base cl 6 (Str.ofString "columns") 1 nS:=by
 obtain⟨f,fd,F,hm⟩:=h
 exact⟨f,fd,_,bM (k:=5) tZ.2 kE.2 F pW (fun cdv A outer s H E hr=>(av (bb pW.nd rfl (Or.inr rfl) (vL XK_Bench___init__ hr (by decide) rfl (ah (ao (aa 0)) aF) (ae aB))) (aP (cO (jZ rfl (b_.of (own:=[(Str.ofString "masks")]) (kp:=[1]) (kn:=[(Str.ofString "bench")]) (sc:=kE.1) (N:=ig) rfl rfl (by decide+kernel)) (qD (mV XP_Bench_readings hr (by decide) (aM 1) (ah (ao (bC aj)) aF) (ae aB))) (fun _ _ _=>(a_ (show List.Nodup [(Str.ofString "masks"),(Str.ofString "bench")] from by decide+kernel) rfl (Or.inl rfl))) (fun _ _ _=>eF) (fun _ _ _=>(mV XP_Bench_column hr (by decide) (aM 1) (ah (ao (aa 0)) aF) (ae aB)))))))),hm,F.kp,F.binds fun _ _ _ _ _ _ us hl=>match us,hl with | [_],_=>rfl⟩
noncomputable abbrev ck:Stmt:=top 20
noncomputable abbrev ia:List Str:=[(Str.ofString "script"),(Str.ofString "k")]
noncomputable def m6:{b:List Stmt // aq ck=b}:=by
 have e:aq ck=aq ck:=rfl
 conv at e=>rhs;whnf
 exact⟨_,e⟩
noncomputable def jI:{b:Scope // ag ck=b}:=by
 have e:ag ck=ag ck:=rfl
 conv at e=>rhs;whnf
 exact⟨_,e⟩
theorem oH:aX ia [(Str.ofString "script"),(Str.ofString "k")] jI.1:=⟨rfl,rfl,rfl,by decide+kernel,rfl,by decide+kernel,by decide+kernel⟩
noncomputable def hZ:FS:=(eN (nU (b2 xj (ai 1) (aK cK (au (ai 0) aI))) (el (e2 cw (ai 0) (ai 1))) i9) (el (eC (.int 0))))
noncomputable def dA:List D→R D:=mH ia hZ
theorem oG{P:Program}{w:World}{K:PySem.W.Frag}{mg:Str→Option Value}{base:Heap}{cl:Nat→Addr}(T:Tp K mg cl)(h:Def K mg (Str.ofString "_law_cell_at") ck):Callee P w K mg base 1 (Str.ofString "_law_cell_at") 2 dA:=by
 obtain⟨f,fd,F,hm⟩:=h
 exact⟨f,fd,_,c8 (k:=0) m6.2 jI.2 F oH (fun cdv A outer s H E hr=>(cu (gO (bV EK (aa 1) (aU di rfl T.z_len PySem.boot_len (ab (aa 0) aj)) (bX _)) (bH (bO (aH (aa 0) (aa 1) (fun _ _=>rfl)))) fR) (bH (bO af)))),hm,F.kp,F.binds fun _ _ _ _ _ _ us hl=>match us,hl with | [_,_],_=>rfl⟩
noncomputable abbrev dk:Stmt:=top 21
noncomputable abbrev iR:List Str:=[(Str.ofString "cell")]
noncomputable def rQ:{b:List Stmt // aq dk=b}:=by
 have e:aq dk=aq dk:=rfl
 conv at e=>rhs;whnf
 exact⟨_,e⟩
noncomputable def my:{b:Scope // ag dk=b}:=by
 have e:ag dk=ag dk:=rfl
 conv at e=>rhs;whnf
 exact⟨_,e⟩
theorem uA:aX iR [(Str.ofString "cell")] my.1:=⟨rfl,rfl,rfl,by decide+kernel,rfl,by decide+kernel,by decide+kernel⟩
noncomputable def kO:FZ:=(gb (kP (dE (au (aK cAbs (au (ai 0) aI)) (au (e2 gG (e2 km (e2 dH (e2 gG (ai 0) (eC (.int 2147483647))) (eC (.int 1))) (eC (.int 742938285))) (eC (.int 2147483647))) aI)))))
noncomputable def dR:List V3→aJ→R3 V3:=j6 iR kO
noncomputable def qW:List V3→aJ→R3 V3:=lA iR kO
theorem uv{P:Program}{w:World}{K:PySem.W.Frag}{mg:Str→Option Value}{base:Heap}{cl:Nat→Addr}(T:Tp K mg cl)(h:Def K mg (Str.ofString "_law_reel") dk):ay P w K mg base cl 1 (Str.ofString "_law_reel") 1 dR:=by
 obtain⟨f,fd,F,hm⟩:=h
 exact⟨f,fd,_,bM (k:=0) rQ.2 my.2 F uA (fun cdv A outer s H E hr=>(aP (cO (fA (bR (ab (aU EO rfl T.z_abs PyProof.Rows.boot_abs (ab (aa 0) aj)) (ab (aL j9 (aL rN (aL ft (aL j9 (aa 0) af) af) af) af) aj))))))),hm,F.kp,F.binds fun _ _ _ _ _ _ us hl=>match us,hl with | [_],_=>rfl⟩
noncomputable abbrev dr:Stmt:=top 22
noncomputable abbrev ja:List Str:=[(Str.ofString "reel"),(Str.ofString "many"),(Str.ofString "found"),(Str.ofString "stir")]
noncomputable def qY:{b:List Stmt // aq dr=b}:=by
 have e:aq dr=aq dr:=rfl
 conv at e=>rhs;whnf
 exact⟨_,e⟩
noncomputable def mr:{b:Scope // ag dr=b}:=by
 have e:ag dr=ag dr:=rfl
 conv at e=>rhs;whnf
 exact⟨_,e⟩
theorem ku:aX ja [(Str.ofString "reel"),(Str.ofString "many")] mr.1:=⟨rfl,rfl,rfl,by decide+kernel,rfl,by decide+kernel,by decide+kernel⟩
noncomputable def kl:FZ:=(bo (x6 (bT (b2 zT (e2 cw (ai 0) (eC (.int 0))) (e2 n4 (eC (.int 10)) (eC (.int 18))))) (bo (cb 2 (xT (e2 gG (e2 cw (ai 0) (eC (.int 0))) (ai 1)))) (bo (tu (bw 0) (xP (eC (.int 0))) (xT (e2 pZ (e2 cw (ai 0) (eC (.int 0))) (ai 1)))) (gb (xP (ai 2))))) oQ) (bo (tu (bw 0) (xP (eC (.int 1))) (xT (e2 gG (e2 dH (e2 km (e2 cw (ai 0) (eC (.int 1))) (eC (.int 48271))) (eC (.int 11))) (eC (.int 2147483647))))) (bo (cb 3 (xT (e2 gG (e2 km (e2 cw (ai 0) (eC (.int 1))) (e2 cw (ai 0) (eC (.int 1)))) (eC (.int 2147483629))))) (gb (xP (e2 gG (e2 pZ (e2 gG (e2 km (ai 3) (eC (.int 69621))) (eC (.int 2147483587))) (eC (.int 8))) (ai 1)))))))
noncomputable def ma:List V3→aJ→R3 V3:=j6 ja kl
noncomputable def az:List V3→aJ→R3 V3:=lA ja kl
theorem ur{P:Program}{w:World}{K:PySem.W.Frag}{mg:Str→Option Value}{base:Heap}{cl:Nat→Addr}(T:Tp K mg cl)(h:Def K mg (Str.ofString "_law_take") dr):ay P w K mg base cl 1 (Str.ofString "_law_take") 2 ma:=by
 obtain⟨f,fd,F,hm⟩:=h
 exact⟨f,fd,_,bM (k:=0) qY.2 mr.2 F ku (fun cdv A outer s H E hr=>(av (nX (jN (bV GH (aH (aa 0) af (fun _ _=>rfl)) (aL BI af af) (bX _))) (av (bb ku.nd rfl (Or.inl rfl) (bY (aL j9 (aH (aa 0) af (fun _ _=>rfl)) (aa 1)))) (av (qK (bY (aL uB (aH (aa 0) af (fun _ _=>rfl)) (aa 1))) (qy (PX.go (aM 0)) (PX.go (ao af)) set_list)) (aP (cO (ao (aa 2)))))) jS) (av (qK (bY (aL j9 (aL ft (aL rN (aH (aa 0) af (fun _ _=>rfl)) af) af) af)) (qy (PX.go (aM 0)) (PX.go (ao af)) set_list)) (av (bb ku.nd rfl (Or.inl rfl) (bY (aL j9 (aL rN (aH (aa 0) af (fun _ _=>rfl)) (aH (aa 0) af (fun _ _=>rfl))) af))) (aP (cO (ao (aL j9 (aL uB (aL j9 (aL rN (aa 3) af) af) af) (aa 1))))))))),hm,F.kp,F.binds fun _ _ _ _ _ _ us hl=>match us,hl with | [_,_],_=>rfl⟩
noncomputable abbrev cY:Stmt:=top 23
noncomputable abbrev gP:List Str:=[(Str.ofString "reel"),(Str.ofString "many"),(Str.ofString "letters"),(Str.ofString "words"),(Str.ofString "names"),(Str.ofString "k"),(Str.ofString "name"),(Str.ofString "j")]
noncomputable def qg:{b:List Stmt // aq cY=b}:=by
 have e:aq cY=aq cY:=rfl
 conv at e=>rhs;whnf
 exact⟨_,e⟩
noncomputable def k4:{b:Scope // ag cY=b}:=by
 have e:ag cY=ag cY:=rfl
 conv at e=>rhs;whnf
 exact⟨_,e⟩
theorem cW:aX gP [(Str.ofString "reel"),(Str.ofString "many")] k4.1:=⟨rfl,rfl,rfl,by decide+kernel,rfl,by decide+kernel,by decide+kernel⟩
noncomputable def kf:FZ:=(cb 6 (x2 dH (xP (ai 6)) (xD (xP (ai 2)) (bt az (ax (bw 0) (ax (xP (eC (.int 26))) bG))))))
noncomputable def fM:FZ:=(cb 6 (xP (e2 dH (vO (ai 6) jF (iu (CZ (eC (.int 1))))) (e2 cw (ai 2) (e2 gG (e2 dH (vY "str" uK (ai 2) (au (e2 cw (ai 6) (CZ (eC (.int 1)))) aI)) (eC (.int 1))) (eC (.int 26)))))))
noncomputable def h_:FZ:=(bo (cb 6 (xD (xP (e2 dH (eNew (dE (au (eC (.str (Str.ofString ""))) (au (eC (.str (Str.ofString ""))) (au (eC (.str (Str.ofString "zz"))) (au (eC (.str (Str.ofString "qrst"))) aI)))))) (ai 3))) (bt az (ax (bw 0) (ax (xP (eC (.int 13))) bG))))) (bo (jx (kh (x2 dH (xP (eC (.int 1))) (bt az (ax (bw 0) (ax (xP (eC (.int 4))) bG))))) (ic 7) kf) (bo (tF 1000 (bT (qR (b2 nc (ai 6) (ai 4)) (b2 nc (ai 6) (ai 3)))) fM) (iq 4 (xP (ai 6))))))
noncomputable def jn:FZ:=(bo (cb 2 (xP (eC (.str (Str.ofString "abcdefghijklmnopqrstuvwxyz"))))) (bo (cb 3 (xP (eNew (dE (au (eC (.str (Str.ofString "in"))) (au (eC (.str (Str.ofString "gate"))) (au (eC (.str (Str.ofString "sure"))) (au (eC (.str (Str.ofString "out"))) (au (eC (.str (Str.ofString "not"))) (au (eC (.str (Str.ofString "and"))) (au (eC (.str (Str.ofString "or"))) (au (eC (.str (Str.ofString "xor"))) (au (eC (.str (Str.ofString "vote"))) aI))))))))))))) (bo (cb 4 (kP (dE aI))) (bo (jx (iP (eg (ai 1))) (ic 5) h_) (gb (bw 4))))))
noncomputable def lu:List V3→aJ→R3 V3:=j6 gP jn
noncomputable def eX:List V3→aJ→R3 V3:=lA gP jn
theorem rP{P:Program}{w:World}{K:PySem.W.Frag}{mg:Str→Option Value}{base:Heap}{cl:Nat→Addr}(T:Tp K mg cl)(h:Def K mg (Str.ofString "_law_names") cY)(XP_law_take:ay P w K mg base cl 1 (Str.ofString "_law_take") 2 az):ay P w K mg base cl 2 (Str.ofString "_law_names") 2 lu:=by
 obtain⟨f,fd,F,hm⟩:=h
 exact⟨f,fd,_,bM (k:=1) qg.2 k4.2 F cW (fun cdv A outer s H E hr=>(av (bb cW.nd rfl (Or.inl rfl) (ao bp)) (av (bb cW.nd rfl (Or.inl rfl) (ao (c7 (bR (ab bp (ab bp (ab bp (ab bp (ab bp (ab bp (ab bp (ab bp (ab bp aj))))))))))))) (av (bb cW.nd rfl (Or.inl rfl) (fA (bR aj))) (av (eA PassesOwn.never rfl (cH (cm (aa 1) rfl T.z_range)) (a_ cW.nd rfl (Or.inl rfl)) (av (bb cW.nd rfl (Or.inl rfl) (nh (ao (aL ft (c7 (bR (ab bp (ab bp (ab bp (ab bp aj)))))) (aa 3))) (aT XP_law_take hr (by decide) rfl (ah (aM 0) (ah (ao af) aF)) (ae (ae aB))) (fun _ _=>rfl))) (av (eA PassesOwn.never rfl (fE (ox ft (ao af) (aT XP_law_take hr (by decide) rfl (ah (aM 0) (ah (ao af) aF)) (ae (ae aB)))) rfl T.z_range) (a_ cW.nd rfl (Or.inl rfl)) (aP (bb cW.nd rfl (Or.inl rfl) (ox ft (ao (aa 6)) (nh (ao (aa 2)) (aT XP_law_take hr (by decide) rfl (ah (aM 0) (ah (ao af) aF)) (ae (ae aB))) (fun _ _=>rfl)))))) (av (yZ 1000 PassesOwn.never (jN (mW (vM (bV AL (aa 6) (aa 4) (by with_unfolding_all rfl)) (rG (bV AL (aa 6) (aa 3) (by with_unfolding_all rfl)))))) (aP (bb cW.nd rfl (Or.inl rfl) (ao (aL ft (xW (aa 6) y9 (ni (uG af))) (aH (aa 2) (aL j9 (aL ft (yF (aa 2) (ab (aH (aa 6) (uG af) (fun _ _=>rfl)) aj)) af) af) (fun _ _=>rfl))))))) (aP (fH rfl (Or.inl rfl) (ao (aa 6)))))))) (aP (cO (aM 4)))))))),hm,F.kp,F.binds fun _ _ _ _ _ _ us hl=>match us,hl with | [_,_],_=>rfl⟩
noncomputable abbrev dq:Stmt:=top 24
noncomputable abbrev iL:List Str:=[(Str.ofString "reel"),(Str.ofString "kinds"),(Str.ofString "most_sure"),(Str.ofString "kind"),(Str.ofString "many"),(Str.ofString "wires"),(Str.ofString "k"),(Str.ofString "back"),(Str.ofString "wire")]
noncomputable def sf:{b:List Stmt // aq dq=b}:=by
 have e:aq dq=aq dq:=rfl
 conv at e=>rhs;whnf
 exact⟨_,e⟩
noncomputable def l9:{b:Scope // ag dq=b}:=by
 have e:ag dq=ag dq:=rfl
 conv at e=>rhs;whnf
 exact⟨_,e⟩
theorem dN:aX iL [(Str.ofString "reel"),(Str.ofString "kinds"),(Str.ofString "most_sure")] l9.1:=⟨rfl,rfl,rfl,by decide+kernel,rfl,by decide+kernel,by decide+kernel⟩
noncomputable def k9:FZ:=(bo (cb 7 (bt az (ax (bw 0) (ax (xP (eC (.int 2))) bG)))) (bo (cb 8 (bt az (ax (bw 0) (ax (xT (aK cK (au (ai 1) aI))) bG)))) (bo (x6 (bP (b2 ik (ai 7) (eC (.int 1)))) (cb 8 (xT (e2 iO (e2 iO (aK cK (au (ai 1) aI)) (eC (.int 1))) (e2 gG (ai 8) (aK sd (au (aK cK (au (ai 1) aI)) (au (eC (.int 4)) aI))))))) oQ) (iq 5 (xP (ai 8))))))
noncomputable def kH:FZ:=(bo (cb 3 (xD (xP (eNew (dE (au (eC (.str (Str.ofString "not"))) (au (eC (.str (Str.ofString "and"))) (au (eC (.str (Str.ofString "or"))) (au (eC (.str (Str.ofString "xor"))) (au (eC (.str (Str.ofString "vote"))) (au (eC (.str (Str.ofString "xor"))) (au (eC (.str (Str.ofString "and"))) aI)))))))))) (bt az (ax (bw 0) (ax (xP (eC (.int 7))) bG))))) (bo (cb 4 (xP (DB [((Sum.inr (Str.ofString "not"):Key),V.int 1),((Sum.inr (Str.ofString "vote"):Key),V.int 3)] (ai 3) (eC (.int 2))))) (bo (cb 5 (kP (dE aI))) (bo (jx (iP (eg (ai 4))) (ic 6) k9) (gb (xw (ax (xP (ai 3)) (ax (xT (aK ee (au (ai 5) aI))) (ax (x2 xj (bt az (ax (bw 0) (ax (xP (eC (.int 4))) bG))) (xP (ai 2))) bG)))))))))
noncomputable def ml:List V3→aJ→R3 V3:=j6 iL kH
noncomputable def eE:List V3→aJ→R3 V3:=lA iL kH
theorem tj{P:Program}{w:World}{K:PySem.W.Frag}{mg:Str→Option Value}{base:Heap}{cl:Nat→Addr}(T:Tp K mg cl)(h:Def K mg (Str.ofString "_law_gate") dq)(XP_law_take:ay P w K mg base cl 1 (Str.ofString "_law_take") 2 az):ay P w K mg base cl 2 (Str.ofString "_law_gate") 3 ml:=by
 obtain⟨f,fd,F,hm⟩:=h
 exact⟨f,fd,_,bM (k:=1) sf.2 l9.2 F dN (fun cdv A outer s H E hr=>(av (bb dN.nd rfl (Or.inl rfl) (nh (ao (c7 (bR (ab bp (ab bp (ab bp (ab bp (ab bp (ab bp (ab bp aj)))))))))) (aT XP_law_take hr (by decide) rfl (ah (aM 0) (ah (ao af) aF)) (ae (ae aB))) (fun _ _=>rfl))) (av (bb dN.nd rfl (Or.inl rfl) (ao (A5 (EE hr) (k5 oi nV (k5 oi nV uS)) rfl rfl (by simp) (fun _ _ _ h=>h) (by decide) (aa 3) af ⟨rfl,rfl,rfl,rfl⟩ (Bi (k5 oi nV (k5 oi nV uS)) rfl rfl (by simp) (by decide))))) (av (bb dN.nd rfl (Or.inl rfl) (fA (bR aj))) (av (eA PassesOwn.never rfl (cH (cm (aa 4) rfl T.z_range)) (a_ dN.nd rfl (Or.inl rfl)) (av (bb dN.nd rfl (Or.inl rfl) (aT XP_law_take hr (by decide) rfl (ah (aM 0) (ah (ao af) aF)) (ae (ae aB)))) (av (bb dN.nd rfl (Or.inl rfl) (aT XP_law_take hr (by decide) rfl (ah (aM 0) (ah (bY (aU di rfl T.z_len PySem.boot_len (ab (aa 1) aj))) aF)) (ae (ae aB)))) (av (nX (kW (bV (jk hr.units) (aa 7) af (bX _))) (aP (bb dN.nd rfl (Or.inl rfl) (bY (aL nR (aL nR (aU di rfl T.z_len PySem.boot_len (ab (aa 1) aj)) af) (aL j9 (aa 8) (aU (D5 rfl) rfl T.z_min PyProof.Rows.boot_min (ab (aU di rfl T.z_len PySem.boot_len (ab (aa 1) aj)) (ab af aj)))))))) jS) (aP (fH rfl (Or.inl rfl) (ao (aa 8)))))))) (aP (cO (tE (ah (ao (aa 3)) (ah (bY (fD lh rfl T.z_tuple PyProof.Rows.boot_tuple (ab (aa 5) aj))) (ah (qF EK (aT XP_law_take hr (by decide) rfl (ah (aM 0) (ah (ao af) aF)) (ae (ae aB))) (ao (aa 2)) (bX _)) aF))))))))))),hm,F.kp,F.binds fun _ _ _ _ _ _ us hl=>match us,hl with | [_,_,_],_=>rfl⟩
noncomputable abbrev cT:Stmt:=top 25
noncomputable abbrev fQ:List Str:=[(Str.ofString "reel"),(Str.ofString "gate"),(Str.ofString "kinds"),(Str.ofString "wires"),(Str.ofString "wire"),(Str.ofString "same")]
noncomputable def qo:{b:List Stmt // aq cT=b}:=by
 have e:aq cT=aq cT:=rfl
 conv at e=>rhs;whnf
 exact⟨_,e⟩
noncomputable def iT:{b:Scope // ag cT=b}:=by
 have e:ag cT=ag cT:=rfl
 conv at e=>rhs;whnf
 exact⟨_,e⟩
theorem gY:aX fQ [(Str.ofString "reel"),(Str.ofString "gate"),(Str.ofString "kinds")] iT.1:=⟨rfl,rfl,rfl,by decide+kernel,rfl,by decide+kernel,by decide+kernel⟩
noncomputable def kj:FZ:=(bo (cb 5 (f9 (kh (xT (aK cK (au (ai 2) aI)))) (ic 0) (bT (b2 ik (e2 cw (ai 1) (ai 0)) (e2 cw (ai 1) (ai 2)))) (xP (ai 0)) [(Str.ofString "one")] [2,4])) (iq 3 (xD (xP (ai 5)) (bt az (ax (bw 0) (ax (xP (aK cK (au (ai 5) aI))) bG))))))
noncomputable def ju:FZ:=(bo (cb 3 (kP (dE aI))) (bo (jx (iP (gB (e2 cw (ai 1) (eC (.int 1))))) (ic 4) kj) (gb (xw (ax (xP (e2 cw (ai 1) (eC (.int 0)))) (ax (xT (aK ee (au (ai 3) aI))) (ax (x2 ik (bt az (ax (bw 0) (ax (xP (eC (.int 4))) bG))) (xP (eC (.int 0)))) bG)))))))
noncomputable def k8:List V3→aJ→R3 V3:=j6 fQ ju
noncomputable def eY:List V3→aJ→R3 V3:=lA fQ ju
theorem rY{P:Program}{w:World}{K:PySem.W.Frag}{mg:Str→Option Value}{base:Heap}{cl:Nat→Addr}(T:Tp K mg cl)(h:Def K mg (Str.ofString "_law_again") cT)(XP_law_take:ay P w K mg base cl 1 (Str.ofString "_law_take") 2 az):ay P w K mg base cl 2 (Str.ofString "_law_again") 3 k8:=by
 obtain⟨f,fd,F,hm⟩:=h
 exact⟨f,fd,_,bM (k:=1) qo.2 iT.2 F gY (fun cdv A outer s H E hr=>(av (bb gY.nd rfl (Or.inl rfl) (fA (bR aj))) (av (eA PassesOwn.never rfl (cH (eR (aH (aa 1) af (fun _ _=>rfl)))) (a_ gY.nd rfl (Or.inr rfl)) (av (iH rfl gY.nd rfl rfl (b_.of (own:=[(Str.ofString "one")]) (kp:=[2,4]) (kn:=[(Str.ofString "kinds"),(Str.ofString "wire")]) (sc:=iT.1) (N:=fQ) rfl rfl (by decide+kernel)) (fE (bY (aU di rfl T.z_len PySem.boot_len (ab (aa 2) aj))) rfl T.z_range) (fun _ _ _=>(a_ (show List.Nodup [(Str.ofString "one"),(Str.ofString "kinds"),(Str.ofString "wire")] from by decide+kernel) rfl (Or.inl rfl))) (fun _ _ _=>(sP (jN (bV (jk hr.units) (aH (aa 1) (aa 0) (fun _ _=>rfl)) (aH (aa 1) (aa 2) (fun _ _=>rfl)) (bX _))))) (fun _ _ _=>(ao (aa 0)))) (aP (fH rfl (Or.inl rfl) (nh (ao (aa 5)) (aT XP_law_take hr (by decide) rfl (ah (aM 0) (ah (ao (aU di rfl T.z_len PySem.boot_len (ab (aa 5) aj))) aF)) (ae (ae aB))) (fun _ _=>rfl)))))) (aP (cO (tE (ah (ao (aH (aa 1) af (fun _ _=>rfl))) (ah (bY (fD lh rfl T.z_tuple PyProof.Rows.boot_tuple (ab (aa 3) aj))) (ah (qF (jk hr.units) (aT XP_law_take hr (by decide) rfl (ah (aM 0) (ah (ao af) aF)) (ae (ae aB))) (ao af) (bX _)) aF))))))))),hm,F.kp,F.binds fun _ _ _ _ _ _ us hl=>match us,hl with | [_,_,_],_=>rfl⟩
noncomputable abbrev dw:Stmt:=top 26
noncomputable abbrev fG:List Str:=[(Str.ofString "reel"),(Str.ofString "kinds"),(Str.ofString "names"),(Str.ofString "most"),(Str.ofString "outs"),(Str.ofString "k"),(Str.ofString "wire"),(Str.ofString "same"),(Str.ofString "width"),(Str.ofString "some"),(Str.ofString "way")]
noncomputable def rR:{b:List Stmt // aq dw=b}:=by
 have e:aq dw=aq dw:=rfl
 conv at e=>rhs;whnf
 exact⟨_,e⟩
noncomputable def gU:{b:Scope // ag dw=b}:=by
 have e:ag dw=ag dw:=rfl
 conv at e=>rhs;whnf
 exact⟨_,e⟩
theorem dS:aX fG [(Str.ofString "reel"),(Str.ofString "kinds"),(Str.ofString "names"),(Str.ofString "most")] gU.1:=⟨rfl,rfl,rfl,by decide+kernel,rfl,by decide+kernel,by decide+kernel⟩
noncomputable def iK:FZ:=(bo (cb 6 (x2 iO (xT (e2 iO (aK cK (au (ai 1) aI)) (eC (.int 1)))) (bt az (ax (bw 0) (ax (xT (aK cK (au (ai 1) aI))) bG))))) (bo (cb 7 (f9 (kh (xT (aK cK (au (ai 1) aI)))) (ic 0) (bT (b2 ik (e2 cw (ai 1) (ai 0)) (e2 cw (ai 1) (ai 2)))) (xP (ai 0)) [(Str.ofString "one")] [1,6])) (bo (cb 8 (xD (xP (eNew (dE (au (eC (.int 1)) (au (eC (.int 1)) (au (eC (.int 2)) (au (eC (.int 2)) (au (eC (.int 3)) (au (eC (.int 3)) aI))))))))) (bt az (ax (bw 0) (ax (xP (eC (.int 6))) bG))))) (bo (cb 9 (Bv (xP (eNew (dE (au (ai 6) aI)))) (f9 (iP (eg (e2 iO (ai 8) (eC (.int 1))))) (ic 0) o4 (xD (xP (ai 2)) (bt az (ax (bw 1) (ax (xP (aK cK (au (ai 2) aI))) bG)))) [(Str.ofString "j")] [0,7]))) (bo (cb 10 (bt az (ax (bw 0) (ax (xP (eC (.int 3))) bG)))) (bo (x6 (bP (kq (b2 ik (ai 8) (eC (.int 3))) (b2 tO (ai 10) (eC (.int 0))))) (tu (bw 9) (xP (eC (.int 2))) (bt az (ax (bw 0) (ax (xT (aK cK (au (ai 1) aI))) bG)))) oQ) (bo (x6 (bP (kq (b2 ik (ai 8) (eC (.int 3))) (b2 tO (ai 10) (eC (.int 1))))) (tu (bw 9) (xP (eC (.int 1))) (bt az (ax (bw 0) (ax (xT (aK cK (au (ai 1) aI))) bG)))) oQ) (iq 4 (xT (dv (au (e2 cw (ai 2) (ai 5)) (au (aK ee (au (ai 9) aI)) aI))))))))))))
noncomputable def kK:FZ:=(bo (cb 4 (kP (dE aI))) (bo (jx (kh (x2 dH (xP (eC (.int 1))) (bt az (ax (bw 0) (ax (xP (ai 3)) bG))))) (ic 5) iK) (gb (bw 4))))
noncomputable def md:List V3→aJ→R3 V3:=j6 fG kK
noncomputable def fU:List V3→aJ→R3 V3:=lA fG kK
theorem tY{P:Program}{w:World}{K:PySem.W.Frag}{mg:Str→Option Value}{base:Heap}{cl:Nat→Addr}(T:Tp K mg cl)(h:Def K mg (Str.ofString "_law_outs") dw)(XP_law_take:ay P w K mg base cl 1 (Str.ofString "_law_take") 2 az):ay P w K mg base cl 2 (Str.ofString "_law_outs") 4 md:=by
 obtain⟨f,fd,F,hm⟩:=h
 exact⟨f,fd,_,bM (k:=1) rR.2 gU.2 F dS (fun cdv A outer s H E hr=>(av (bb dS.nd rfl (Or.inl rfl) (fA (bR aj))) (av (eA PassesOwn.never rfl (fE (ox ft (ao af) (aT XP_law_take hr (by decide) rfl (ah (aM 0) (ah (ao (aa 3)) aF)) (ae (ae aB)))) rfl T.z_range) (a_ dS.nd rfl (Or.inl rfl)) (av (bb dS.nd rfl (Or.inr rfl) (ox nR (bY (aL nR (aU di rfl T.z_len PySem.boot_len (ab (aa 1) aj)) af)) (aT XP_law_take hr (by decide) rfl (ah (aM 0) (ah (bY (aU di rfl T.z_len PySem.boot_len (ab (aa 1) aj))) aF)) (ae (ae aB))))) (av (bb dS.nd rfl (Or.inr rfl) (jZ rfl (b_.of (own:=[(Str.ofString "one")]) (kp:=[1,6]) (kn:=[(Str.ofString "kinds"),(Str.ofString "wire")]) (sc:=gU.1) (N:=fG) rfl rfl (by decide+kernel)) (fE (bY (aU di rfl T.z_len PySem.boot_len (ab (aa 1) aj))) rfl T.z_range) (fun _ _ _=>(a_ (show List.Nodup [(Str.ofString "one"),(Str.ofString "kinds"),(Str.ofString "wire")] from by decide+kernel) rfl (Or.inl rfl))) (fun _ _ _=>(sP (jN (bV (jk hr.units) (aH (aa 1) (aa 0) (fun _ _=>rfl)) (aH (aa 1) (aa 2) (fun _ _=>rfl)) (bX _))))) (fun _ _ _=>(ao (aa 0))))) (av (bb dS.nd rfl (Or.inl rfl) (nh (ao (c7 (bR (ab af (ab af (ab af (ab af (ab af (ab af aj))))))))) (aT XP_law_take hr (by decide) rfl (ah (aM 0) (ah (ao af) aF)) (ae (ae aB))) (fun _ _=>rfl))) (av (bb dS.nd rfl (Or.inl rfl) (yq (ao (c7 (bR (ab (aa 6) aj)))) (jZ rfl (b_.of (own:=[(Str.ofString "j")]) (kp:=[0,7]) (kn:=[(Str.ofString "reel"),(Str.ofString "same")]) (sc:=gU.1) (N:=fG) rfl rfl (by decide+kernel)) (cH (cm (aL nR (aa 8) af) rfl T.z_range)) (fun _ _ _=>(a_ (show List.Nodup [(Str.ofString "j"),(Str.ofString "reel"),(Str.ofString "same")] from by decide+kernel) rfl (Or.inl rfl))) (fun _ _ _=>eF) (fun _ _ _=>(nh (ao (aa 2)) (aT XP_law_take hr (by decide) rfl (ah (aM 1) (ah (ao (aU di rfl T.z_len PySem.boot_len (ab (aa 2) aj))) aF)) (ae (ae aB))) (fun _ _=>rfl)))))) (av (bb dS.nd rfl (Or.inl rfl) (aT XP_law_take hr (by decide) rfl (ah (aM 0) (ah (ao af) aF)) (ae (ae aB)))) (av (nX (kW (mW (sk (bV (jk hr.units) (aa 8) af (bX _)) (pL (bV Di (aa 10) af (bX _)))))) (aP (qK (aT XP_law_take hr (by decide) rfl (ah (aM 0) (ah (bY (aU di rfl T.z_len PySem.boot_len (ab (aa 1) aj))) aF)) (ae (ae aB))) (qy (PX.go (aM 9)) (PX.go (ao af)) set_list))) jS) (av (nX (kW (mW (sk (bV (jk hr.units) (aa 8) af (bX _)) (pL (bV Di (aa 10) af (bX _)))))) (aP (qK (aT XP_law_take hr (by decide) rfl (ah (aM 0) (ah (bY (aU di rfl T.z_len PySem.boot_len (ab (aa 1) aj))) aF)) (ae (ae aB))) (qy (PX.go (aM 9)) (PX.go (ao af)) set_list))) jS) (aP (fH rfl (Or.inl rfl) (bY (bC (ab (aH (aa 2) (aa 5) (fun _ _=>rfl)) (ab (fD lh rfl T.z_tuple PyProof.Rows.boot_tuple (ab (aa 9) aj)) aj)))))))))))))) (aP (cO (aM 4)))))),hm,F.kp,F.binds fun _ _ _ _ _ _ us hl=>match us,hl with | [_,_,_,_],_=>rfl⟩
noncomputable abbrev d7:Stmt:=top 27
noncomputable abbrev j1:List Str:=[(Str.ofString "reel"),(Str.ofString "cells"),(Str.ofString "most_ins"),(Str.ofString "most_sure"),(Str.ofString "names"),(Str.ofString "ins"),(Str.ofString "kinds"),(Str.ofString "k"),(Str.ofString "width"),(Str.ofString "ahead"),(Str.ofString "gates"),(Str.ofString "cell"),(Str.ofString "own"),(Str.ofString "place")]
noncomputable def t5:{b:List Stmt // aq d7=b}:=by
 have e:aq d7=aq d7:=rfl
 conv at e=>rhs;whnf
 exact⟨_,e⟩
noncomputable def nT:{b:Scope // ag d7=b}:=by
 have e:ag d7=ag d7:=rfl
 conv at e=>rhs;whnf
 exact⟨_,e⟩
theorem cR:aX j1 [(Str.ofString "reel"),(Str.ofString "cells"),(Str.ofString "most_ins"),(Str.ofString "most_sure")] nT.1:=⟨rfl,rfl,rfl,by decide+kernel,rfl,by decide+kernel,by decide+kernel⟩
noncomputable def jO:FZ:=(bo (cb 8 (x2 dH (xP (eC (.int 1))) (bt az (ax (bw 0) (ax (xP (eC (.int 3))) bG))))) (bo (iq 5 (xP (dv (au (e2 cw (ai 4) (e2 iO (eC (.int 7)) (ai 7))) (au (ai 8) aI))))) (cb 6 (Bv (bw 6) (xP (eNew (AQ (dE (au (ai 7) aI)) (ai 8))))))))
noncomputable def jQ:FZ:=(bo (cb 12 (bt dR (ax (xP (ai 11)) bG))) (x6 (Dw (bT (b2 sU (ai 10) (eNew (dE aI)))) (Ea ik (bt az (ax (bw 12) (ax (xP (eC (.int 3))) bG))) (xP (eC (.int 0))))) (bo (cb 13 (bt az (ax (bw 12) (ax (xT (aK cK (au (ai 10) aI))) bG)))) (bo (iq 10 (bt eY (ax (bw 12) (ax (xT (e2 cw (ai 10) (ai 13))) (ax (bw 6) bG))))) (iq 6 (xT (e2 cw (ai 6) (e2 dH (ai 9) (ai 13))))))) (bo (iq 10 (bt eE (ax (bw 12) (ax (bw 6) (ax (xP (ai 3)) bG))))) (iq 6 (xT (e2 dH (aK cK (au (ai 6) aI)) (eC (.int 10))))))))
noncomputable def lV:FZ:=(bo (cb 4 (bt eX (ax (bw 0) (ax (xP (eC (.int 8))) bG)))) (bo (cb 5 (kP (dE aI))) (bo (cb 6 (kP (dE aI))) (bo (jx (kh (x2 dH (xP (eC (.int 1))) (bt az (ax (bw 0) (ax (xP (ai 2)) bG))))) (ic 7) jO) (bo (cb 9 (xT (aK cK (au (ai 6) aI)))) (bo (cb 10 (kP (dE aI))) (bo (jx (iP (gB (ai 1))) (ic 11) jQ) (gb (xw (ax (bw 5) (ax (bw 10) (ax (bt fU (ax (bw 0) (ax (bw 6) (ax (xP (ai 4)) (ax (xP (eC (.int 6))) bG))))) bG))))))))))))
noncomputable def mY:List V3→aJ→R3 V3:=j6 j1 lV
noncomputable def i4:List V3→aJ→R3 V3:=lA j1 lV
theorem wz{P:Program}{w:World}{K:PySem.W.Frag}{mg:Str→Option Value}{base:Heap}{cl:Nat→Addr}(T:Tp K mg cl)(h:Def K mg (Str.ofString "_law_net") d7)(XP_law_names:ay P w K mg base cl 2 (Str.ofString "_law_names") 2 eX)(XP_law_take:ay P w K mg base cl 1 (Str.ofString "_law_take") 2 az)(XK_law_reel:ay P w K mg base cl 1 (Str.ofString "_law_reel") 1 dR)(XP_law_again:ay P w K mg base cl 2 (Str.ofString "_law_again") 3 eY)(XP_law_gate:ay P w K mg base cl 2 (Str.ofString "_law_gate") 3 eE)(XP_law_outs:ay P w K mg base cl 2 (Str.ofString "_law_outs") 4 fU):ay P w K mg base cl 3 (Str.ofString "_law_net") 4 mY:=by
 obtain⟨f,fd,F,hm⟩:=h
 exact⟨f,fd,_,bM (k:=2) t5.2 nT.2 F cR (fun cdv A outer s H E hr=>(av (bb cR.nd rfl (Or.inl rfl) (aT XP_law_names hr (by decide) rfl (ah (aM 0) (ah (ao af) aF)) (ae (ae aB)))) (av (bb cR.nd rfl (Or.inl rfl) (fA (bR aj))) (av (bb cR.nd rfl (Or.inl rfl) (fA (bR aj))) (av (eA PassesOwn.never rfl (fE (ox ft (ao af) (aT XP_law_take hr (by decide) rfl (ah (aM 0) (ah (ao (aa 2)) aF)) (ae (ae aB)))) rfl T.z_range) (a_ cR.nd rfl (Or.inl rfl)) (av (bb cR.nd rfl (Or.inl rfl) (ox ft (ao af) (aT XP_law_take hr (by decide) rfl (ah (aM 0) (ah (ao af) aF)) (ae (ae aB))))) (av (fH rfl (Or.inl rfl) (ao (bC (ab (aH (aa 4) (aL nR af (aa 7)) (fun _ _=>rfl)) (ab (aa 8) aj))))) (aP (bb cR.nd rfl (Or.inl rfl) (yq (aM 6) (ao (c7 (Bs (bR (ab (aa 7) aj)) (aa 8)))))))))) (av (bb cR.nd rfl (Or.inl rfl) (bY (aU di rfl T.z_len PySem.boot_len (ab (aa 6) aj)))) (av (bb cR.nd rfl (Or.inl rfl) (fA (bR aj))) (av (eA PassesOwn.never rfl (cH (eR (aa 1))) (a_ cR.nd rfl (Or.inl rfl)) (av (bb cR.nd rfl (Or.inl rfl) (aT XK_law_reel hr (by decide) rfl (ah (ao (aa 11)) aF) (ae aB))) (aP (nX (zY.pb (Bo (jN (bV (Dm hr.units) (aa 10) (c7 (bR aj)) (bX _))) (xE (qb (jk hr.units) (aT XP_law_take hr (by decide) rfl (ah (aM 12) (ah (ao af) aF)) (ae (ae aB))) (ao af) (bX _))))) (av (bb cR.nd rfl (Or.inl rfl) (aT XP_law_take hr (by decide) rfl (ah (aM 12) (ah (bY (aU di rfl T.z_len PySem.boot_len (ab (aa 10) aj))) aF)) (ae (ae aB)))) (av (fH rfl (Or.inl rfl) (aT XP_law_again hr (by decide) rfl (ah (aM 12) (ah (bY (aH (aa 10) (aa 13) (fun _ _=>rfl))) (ah (aM 6) aF))) (ae (ae (ae aB))))) (aP (fH rfl (Or.inl rfl) (bY (aH (aa 6) (aL ft (aa 9) (aa 13)) (fun _ _=>rfl))))))) (av (fH rfl (Or.inl rfl) (aT XP_law_gate hr (by decide) rfl (ah (aM 12) (ah (aM 6) (ah (ao (aa 3)) aF))) (ae (ae (ae aB))))) (aP (fH rfl (Or.inl rfl) (bY (aL ft (aU di rfl T.z_len PySem.boot_len (ab (aa 6) aj)) af))))))))) (aP (cO (tE (ah (aM 5) (ah (aM 10) (ah (aT XP_law_outs hr (by decide) rfl (ah (aM 0) (ah (aM 6) (ah (ao (aa 4)) (ah (ao af) aF)))) (ae (ae (ae (ae aB))))) aF)))))))))))))),hm,F.kp,F.binds fun _ _ _ _ _ _ us hl=>match us,hl with | [_,_,_,_],_=>rfl⟩
noncomputable abbrev dn:Stmt:=top 28
noncomputable abbrev kI:List Str:=[(Str.ofString "number"),(Str.ofString "many"),(Str.ofString "found"),(Str.ofString "k")]
noncomputable def si:{b:List Stmt // aq dn=b}:=by
 have e:aq dn=aq dn:=rfl
 conv at e=>rhs;whnf
 exact⟨_,e⟩
noncomputable def l0:{b:Scope // ag dn=b}:=by
 have e:ag dn=ag dn:=rfl
 conv at e=>rhs;whnf
 exact⟨_,e⟩
theorem gu:aX kI [(Str.ofString "number"),(Str.ofString "many")] l0.1:=⟨rfl,rfl,rfl,by decide+kernel,rfl,by decide+kernel,by decide+kernel⟩
noncomputable def i3:FS:=(eN (iI 2 (e2 n_ (dv (au (e2 gG (ai 0) (eC (.int 2))) aI)) (ai 2))) (iI 0 (e2 pZ (ai 0) (eC (.int 2)))))
noncomputable def oA:FS:=(eN (iI 2 (dv aI)) (eN (v_ (eg (ai 1)) (cy 3) i3) (el (ai 2))))
noncomputable def fB:List D→R D:=mH kI oA
theorem t4{P:Program}{w:World}{K:PySem.W.Frag}{mg:Str→Option Value}{base:Heap}{cl:Nat→Addr}(T:Tp K mg cl)(h:Def K mg (Str.ofString "_law_bits") dn):Callee P w K mg base 1 (Str.ofString "_law_bits") 2 fB:=by
 obtain⟨f,fd,F,hm⟩:=h
 exact⟨f,fd,_,c8 (k:=0) si.2 l0.2 F gu (fun cdv A outer s H E hr=>(cu (iA gu.nd rfl (Or.inl rfl) (bC aj)) (cu (sN PassesOwn.never rfl (cm (aa 1) rfl T.z_range) (dC gu.nd rfl (Or.inl rfl)) (cu (iA gu.nd rfl (Or.inl rfl) (aL uc (bC (ab (aL j9 (aa 0) af) aj)) (aa 2))) (bH (iA gu.nd rfl (Or.inl rfl) (aL uB (aa 0) af))))) (bH (bO (aa 2)))))),hm,F.kp,F.binds fun _ _ _ _ _ _ us hl=>match us,hl with | [_,_],_=>rfl⟩
noncomputable abbrev cj:Stmt:=top 29
noncomputable abbrev eh:List Str:=[(Str.ofString "net"),(Str.ofString "found"),(Str.ofString "number"),(Str.ofString "k"),(Str.ofString "bits")]
noncomputable def nC:{b:List Stmt // aq cj=b}:=by
 have e:aq cj=aq cj:=rfl
 conv at e=>rhs;whnf
 exact⟨_,e⟩
noncomputable def gx:{b:Scope // ag cj=b}:=by
 have e:ag cj=ag cj:=rfl
 conv at e=>rhs;whnf
 exact⟨_,e⟩
theorem et:aX eh [(Str.ofString "net")] gx.1:=⟨rfl,rfl,rfl,by decide+kernel,rfl,by decide+kernel,by decide+kernel⟩
noncomputable def jc:FZ:=(rM (xD (bw 1) (xP (ai 3))) (xP (aK lH (au (ai 4) aI))))
noncomputable def ji:FZ:=(jx (y7 (bt nJ (ax (xP (ai 0)) (ax (xP (aK fB (au (ai 2) (au (aK cK (au (e2 cw (ai 0) (eC (.int 0))) aI)) aI)))) (ax (xP (dv aI)) (ax (xP (dv aI)) bG)))))) (vg 2 (qP (ic 3) (qP (ic 4) wg))) jc)
noncomputable def hX:FZ:=(bo (cb 1 (f9 (iP (gB (e2 cw (ai 0) (eC (.int 2))))) (ic 0) o4 (kP (dE aI)) [(Str.ofString "out")] [])) (bo (jx (iP (eg (e2 xM (eC (.int 1)) (aK cK (au (e2 cw (ai 0) (eC (.int 0))) aI))))) (ic 2) ji) (gb (bw 1))))
noncomputable def jM:List V3→aJ→R3 V3:=j6 eh hX
noncomputable def eQ:List V3→aJ→R3 V3:=lA eh hX
theorem oX{P:Program}{w:World}{K:PySem.W.Frag}{mg:Str→Option Value}{base:Heap}{cl:Nat→Addr}(T:Tp K mg cl)(h:Def K mg (Str.ofString "_law_by_runs") cj)(C_law_bits:Callee P w K mg base 1 (Str.ofString "_law_bits") 2 fB)(C_told:Callee P w K mg base 3 (Str.ofString "told") 1 lH)(XP_run:ay P w K mg base cl 4 (Str.ofString "run") 4 nJ):ay P w K mg base cl 5 (Str.ofString "_law_by_runs") 1 jM:=by
 obtain⟨f,fd,F,hm⟩:=h
 exact⟨f,fd,_,bM (k:=4) nC.2 gx.2 F et (fun cdv A outer s H E hr=>(av (iH rfl et.nd rfl rfl (b_.of (own:=[(Str.ofString "out")]) (kp:=[]) (kn:=[]) (sc:=gx.1) (N:=eh) rfl rfl (by decide+kernel)) (cH (eR (aH (aa 0) af (fun _ _=>rfl)))) (fun _ _ _=>(a_ (show List.Nodup [(Str.ofString "out")] from by decide+kernel) rfl (Or.inl rfl))) (fun _ _ _=>eF) (fun _ _ _=>(fA (bR aj)))) (av (eA PassesOwn.never rfl (cH (cm (aL BX af (aU di rfl T.z_len PySem.boot_len (ab (aH (aa 0) af (fun _ _=>rfl)) aj))) rfl T.z_range)) (a_ et.nd rfl (Or.inl rfl)) (aP (eA PassesOwn.never rfl (zG (aT XP_run hr (by decide) rfl (ah (ao (aa 0)) (ah (ao (bW C_law_bits hr (by decide) rfl (ab (aa 2) (ab (aU di rfl T.z_len PySem.boot_len (ab (aH (aa 0) af (fun _ _=>rfl)) aj)) aj)) (aV (aV cx)))) (ah (ao (bC aj)) (ah (ao (bC aj)) aF)))) (ae (ae (ae (ae aB))))) rfl T.z_enumerate) (mS rfl (d3 (a_ et.nd rfl (Or.inl rfl)) (d3 (a_ et.nd rfl (Or.inl rfl)) lq))) (aP (Ai (nh (aM 1) (ao (aa 3)) (fun _ _=>rfl)) (ao (bW C_told hr (by decide) rfl (ab (aa 4) aj) (aV cx)))))))) (aP (cO (aM 1)))))),hm,F.kp,F.binds fun _ _ _ _ _ _ us hl=>match us,hl with | [_],_=>rfl⟩
noncomputable abbrev lX:Stmt:=top 30
noncomputable abbrev j5:List Str:=[(Str.ofString "script"),(Str.ofString "reel"),(Str.ofString "cells"),(Str.ofString "k"),(Str.ofString "net"),(Str.ofString "ins"),(Str.ofString "gates"),(Str.ofString "outs"),(Str.ofString "wires"),(Str.ofString "some"),(Str.ofString "alone"),(Str.ofString "pair"),(Str.ofString "due")]
noncomputable def DG:{b:List Stmt // aq lX=b}:=by
 have e:aq lX=aq lX:=rfl
 conv at e=>rhs;whnf
 exact⟨_,e⟩
noncomputable def oB:{b:Scope // ag lX=b}:=by
 have e:ag lX=ag lX:=rfl
 conv at e=>rhs;whnf
 exact⟨_,e⟩
theorem gQ:aX j5 [(Str.ofString "script")] oB.1:=⟨rfl,rfl,rfl,by decide+kernel,rfl,by decide+kernel,by decide+kernel⟩
noncomputable def vI:FZ:=(cb 2 (x2 dH (xP (ai 2)) (DK (ax (bt az (ax (bw 1) (ax (xP (e2 n4 (eC (.int 10)) (eC (.int 40)))) bG))) bG))))
noncomputable def pf:FZ:=(bo (cb 1 (bt dR (ax (xP (aK dA (au (ai 0) (au (eC (.int 0)) aI)))) bG))) (bo (cb 2 (xP (vO (ai 0) (iu (eC (.int 1))) (iu (eC (.int 61)))))) (bo (jx (iP (eg (e2 iO (eC (.int 2)) (aK cK (au (ai 2) aI))))) (ic 3) vI) (bo (cb 4 (bt i4 (ax (bw 1) (ax (xP (ai 2)) (ax (xP (eC (.int 6))) (ax (xP (eC (.int 1))) bG)))))) (bo (Du (xP (ai 4)) (vg 3 (qP (ic 5) (qP (ic 6) (qP (ic 7) wg))))) (bo (x6 (GN (Ea yb (bt fP (ax (xP (ai 4)) bG)) (xP (eC (.bl true)))) (Ea sU (bt fF (ax (xP (ai 4)) bG)) (bt eQ (ax (xP (ai 4)) bG)))) (gb (xP (eC (.bl false)))) oQ) (bo (cb 8 (xP (e2 dH (aK B9 (au (eNew (jE (gB (ai 5)) (jb 2 (eW (cy 0) (eW (cy 1) je))) sg (ai 1) [(Str.ofString "name"),(Str.ofString "width")] [])) aI)) (aK cK (au (ai 6) aI))))) (bo (cb 9 (f9 (iP (eg (eC (.int 3)))) (ic 0) o4 (bt az (ax (bw 1) (ax (xP (ai 2)) bG))) [(Str.ofString "k")] [1,8])) (bo (cb 10 (bt fF (ax (xP (dv (au (ai 5) (au (ai 6) (au (eNew (dE (au (dv (au (eC (.str (Str.ofString "a"))) (au (dv (au (e2 cw (ai 9) (eC (.int 0))) aI)) aI))) (au (dv (au (eC (.str (Str.ofString "b"))) (au (dv (au (e2 cw (ai 9) (eC (.int 1))) aI)) aI))) (au (dv (au (eC (.str (Str.ofString "c"))) (au (dv (au (e2 cw (ai 9) (eC (.int 2))) aI)) aI))) aI))))) aI))))) bG))) (bo (cb 11 (bt fP (ax (xP (dv (au (ai 5) (au (ai 6) (au (eNew (dE (au (dv (au (eC (.str (Str.ofString "ab"))) (au (dv (au (e2 cw (ai 9) (eC (.int 0))) (au (e2 cw (ai 9) (eC (.int 1))) aI))) aI))) aI))) aI))))) bG))) (bo (x6 (bP (qR (nM (oC (oO "bool" (ai 11)))) (b2 sU (ai 11) (e2 ik (e2 cw (ai 10) (eC (.int 0))) (e2 cw (ai 10) (eC (.int 1))))))) (gb (xP (eC (.bl false)))) oQ) (bo (cb 12 (f9 (iP (eg (e2 xM (eC (.int 1)) (aK cK (au (ai 5) aI))))) (ic 0) o4 (xP (aK xq (au (e2 tO (e2 dH (e2 dH (e2 cw (e2 cw (ai 1) (eC (.int 0))) (ai 0)) (e2 cw (e2 cw (ai 1) (eC (.int 1))) (ai 0))) (e2 cw (e2 cw (ai 1) (eC (.int 2))) (ai 0))) (eC (.int 1))) aI))) [(Str.ofString "k")] [10])) (gb (x2 ik (bt fF (ax (xP (dv (au (ai 5) (au (ai 6) (au (eNew (dE (au (dv (au (eC (.str (Str.ofString "abc"))) (au (aK ee (au (ai 9) aI)) aI))) aI))) aI))))) bG)) (xP (eNew (dE (au (ai 12) aI))))))))))))))))))
noncomputable def GC:List V3→aJ→R3 V3:=j6 j5 pf
noncomputable def Gq:List V3→aJ→R3 V3:=lA j5 pf
noncomputable def uY:List D→R D:=F7 j5 pf
structure Cf (K:PySem.W.Frag) (mg:Str→Option Value) (cl:Nat→Addr):Prop where
 C_Bench:sV K (cl 0)
 N_Bench_net:dM K (cl 0) (Str.ofString "net")
 N_Bench_many_inputs:dM K (cl 0) (Str.ofString "many_inputs")
 N_Bench_full:dM K (cl 0) (Str.ofString "full")
 N_Bench_in_masks:dM K (cl 0) (Str.ofString "in_masks")
 M_Bench:mg (Str.ofString "Bench")=some (.ref (cl 0))
 D_Bench___init__:DO K (cl 0) (Str.ofString "__init__") (Str.ofString "Bench.__init__") aY
 D_Bench_tells:qj K (cl 0) (Str.ofString "tells") (Str.ofString "Bench.tells") bq
 D_Bench_readings:qj K (cl 0) (Str.ofString "readings") (Str.ofString "Bench.readings") aZ
 D_Bench_column:qj K (cl 0) (Str.ofString "column") (Str.ofString "Bench.column") bj
theorem Ej{K:PySem.W.Frag}{h:Heap}{mg:Str→Option Value}(X:K.In h)(G:h.Ns mainGlobals mg){C0:Addr}{f0:Addr}{od0 an0:Option Addr}{sl0:Array (Option Value)}{oc0 kV0 dc0 pm0 cd0 ct0:Value}{f1:Addr}{od1 an1:Option Addr}{sl1:Array (Option Value)}{oc1 kV1 dc1 pm1 cd1 ct1:Value}{f2:Addr}{od2 an2:Option Addr}{sl2:Array (Option Value)}{oc2 kV2 dc2 pm2 cd2 ct2:Value}{f3:Addr}{od3 an3:Option Addr}{sl3:Array (Option Value)}{oc3 kV3 dc3 pm3 cd3 ct3:Value}(aC0:PySem.W.nsIn K mainGlobals (Str.ofString "Bench")=some (some (.ref C0)))(pg0:PySem.W.plainGet K C0 Str.empty=true)(hd0:PySem.W.hasDictIn K C0=true)(po0:PySem.W.plainOver K C0=true)(sa0:PySem.W.findIn K (.ref C0) "__setattr__"=some (some (.builtin "object.__setattr__")))(mk0:PySem.W.makesIn K C0=true)(kc0:PySem.W.keepIn K (.ref C0)=true)(n0_net:PySem.W.findIn K (.ref C0) (Str.ofString "net")=some none)(n0_many_inputs:PySem.W.findIn K (.ref C0) (Str.ofString "many_inputs")=some none)(n0_full:PySem.W.findIn K (.ref C0) (Str.ofString "full")=some none)(n0_in_masks:PySem.W.findIn K (.ref C0) (Str.ofString "in_masks")=some none)(a_Bench___init__:PySem.W.findIn K (.ref C0) (Str.ofString "__init__")=some (some (.ref f0)))(i_Bench___init__:PySem.W.isFn K (.ref f0)=true)(l_Bench___init__:K.lookup f0=some ⟨oc0,od0, .func (PySem.W.fnOf (Str.ofString "__init__") (Str.ofString "Bench.__init__") (gc aY) (aq aY) (ag aY) .none kV0 dc0 pm0 an0 cd0 ct0),sl0⟩)(de:PySem.W.codeIn K cd0 (Str.ofString "Bench.__init__")=true)(k_Bench___init__:PySem.W.keepIn K (.ref f0)=true)(a_Bench_tells:PySem.W.findIn K (.ref C0) (Str.ofString "tells")=some (some (.ref f1)))(i_Bench_tells:PySem.W.isFn K (.ref f1)=true)(l_Bench_tells:K.lookup f1=some ⟨oc1,od1, .func (PySem.W.fnOf (Str.ofString "tells") (Str.ofString "Bench.tells") (gc bq) (aq bq) (ag bq) .none kV1 dc1 pm1 an1 cd1 ct1),sl1⟩)(ei:PySem.W.codeIn K cd1 (Str.ofString "Bench.tells")=true)(k_Bench_tells:PySem.W.keepIn K (.ref f1)=true)(a_Bench_readings:PySem.W.findIn K (.ref C0) (Str.ofString "readings")=some (some (.ref f2)))(i_Bench_readings:PySem.W.isFn K (.ref f2)=true)(l_Bench_readings:K.lookup f2=some ⟨oc2,od2, .func (PySem.W.fnOf (Str.ofString "readings") (Str.ofString "Bench.readings") (gc aZ) (aq aZ) (ag aZ) .none kV2 dc2 pm2 an2 cd2 ct2),sl2⟩)(dc:PySem.W.codeIn K cd2 (Str.ofString "Bench.readings")=true)(k_Bench_readings:PySem.W.keepIn K (.ref f2)=true)(a_Bench_column:PySem.W.findIn K (.ref C0) (Str.ofString "column")=some (some (.ref f3)))(i_Bench_column:PySem.W.isFn K (.ref f3)=true)(l_Bench_column:K.lookup f3=some ⟨oc3,od3, .func (PySem.W.fnOf (Str.ofString "column") (Str.ofString "Bench.column") (gc bj) (aq bj) (ag bj) .none kV3 dc3 pm3 an3 cd3 ct3),sl3⟩)(dP:PySem.W.codeIn K cd3 (Str.ofString "Bench.column")=true)(k_Bench_column:PySem.W.keepIn K (.ref f3)=true):∃cl,Cf K mg cl:=by
 exact⟨fun n=>C0,⟨pg0,hd0,po0,sa0⟩,n0_net,n0_many_inputs,n0_full,n0_in_masks,PySem.W.mg_of X G aC0,⟨_,_,nY (st:=aY) l_Bench___init__ de k_Bench___init__,⟨mk0,a_Bench___init__,i_Bench___init__,kc0⟩⟩,⟨_,_,nY (st:=bq) l_Bench_tells ei k_Bench_tells,⟨a_Bench_tells,i_Bench_tells,k_Bench_tells⟩⟩,⟨_,_,nY (st:=aZ) l_Bench_readings dc k_Bench_readings,⟨a_Bench_readings,i_Bench_readings,k_Bench_readings⟩⟩,⟨_,_,nY (st:=bj) l_Bench_column dP k_Bench_column,⟨a_Bench_column,i_Bench_column,k_Bench_column⟩⟩⟩
theorem B8{P:Program}{w:World}{K:PySem.W.Frag}{mg:Str→Option Value}{base:Heap}{f:Addr}{fd:FuncData}{cl:Nat→Addr}(T:Tp K mg cl)(D_vote_of:Def K mg (Str.ofString "vote_of") d5)(D_gate_mask:Def K mg (Str.ofString "gate_mask") cX)(D_in_wire_masks:Def K mg (Str.ofString "in_wire_masks") bJ)(D_masks_at:Def K mg (Str.ofString "masks_at") dm)(D_wire_masks:Def K mg (Str.ofString "wire_masks") cC)(D_out_masks:Def K mg (Str.ofString "out_masks") cS)(D_run:Def K mg (Str.ofString "run") k_)(D_reading:Def K mg (Str.ofString "reading") dW)(D_bit_at:Def K mg (Str.ofString "bit_at") eO)(D_read_at:Def K mg (Str.ofString "read_at") dY)(D_told:Def K mg (Str.ofString "told") i5)(D_all_inputs:Def K mg (Str.ofString "all_inputs") cA)(D_mask_of:Def K mg (Str.ofString "mask_of") d4)(D_in_mask:Def K mg (Str.ofString "in_mask") dX)(D_Bench___init__:DO K (cl 0) (Str.ofString "__init__") (Str.ofString "Bench.__init__") aY)(D_Bench_tells:qj K (cl 0) (Str.ofString "tells") (Str.ofString "Bench.tells") bq)(D_Bench_readings:qj K (cl 0) (Str.ofString "readings") (Str.ofString "Bench.readings") aZ)(D_is_sound:Def K mg (Str.ofString "is_sound") du)(D_Bench_column:qj K (cl 0) (Str.ofString "column") (Str.ofString "Bench.column") bj)(D_columns:Def K mg (Str.ofString "columns") d9)(D_law_cell_at:Def K mg (Str.ofString "_law_cell_at") ck)(D_law_reel:Def K mg (Str.ofString "_law_reel") dk)(D_law_take:Def K mg (Str.ofString "_law_take") dr)(D_law_names:Def K mg (Str.ofString "_law_names") cY)(D_law_gate:Def K mg (Str.ofString "_law_gate") dq)(D_law_again:Def K mg (Str.ofString "_law_again") cT)(D_law_outs:Def K mg (Str.ofString "_law_outs") dw)(D_law_net:Def K mg (Str.ofString "_law_net") d7)(D_law_bits:Def K mg (Str.ofString "_law_bits") dn)(D_law_by_runs:Def K mg (Str.ofString "_law_by_runs") cj)(F:vd K (Str.ofString "law") (Str.ofString "law") lX f fd):gC P w K mg base pP 7 f fd [Str.ofString "script"] (zS K 1 uY):=by
 have C_vote_of:Callee P w K mg base 1 (Str.ofString "vote_of") 1 eM:=wC T D_vote_of
 have C_gate_mask:Callee P w K mg base 2 (Str.ofString "gate_mask") 3 eH:=so T D_gate_mask C_vote_of
 have XK_in_wire_masks:ay P w K mg base cl 1 (Str.ofString "in_wire_masks") 4 cF:=mJ T D_in_wire_masks
 have XP_in_wire_masks:ay P w K mg base cl 1 (Str.ofString "in_wire_masks") 4 lF:=XK_in_wire_masks.p
 have C_masks_at:Callee P w K mg base 1 (Str.ofString "masks_at") 2 dQ:=uk T D_masks_at
 have XK_wire_masks:ay P w K mg base cl 3 (Str.ofString "wire_masks") 5 ke:=qN T D_wire_masks C_masks_at C_gate_mask XK_in_wire_masks
 have XP_wire_masks:ay P w K mg base cl 3 (Str.ofString "wire_masks") 5 c5:=XK_wire_masks.p
 have XK_out_masks:ay P w K mg base cl 2 (Str.ofString "out_masks") 2 lx:=rp T D_out_masks C_masks_at
 have XP_out_masks:ay P w K mg base cl 2 (Str.ofString "out_masks") 2 dt:=XK_out_masks.p
 have XK_run:ay P w K mg base cl 4 (Str.ofString "run") 4 zc:=FF T D_run XP_out_masks XP_wire_masks
 have XP_run:ay P w K mg base cl 4 (Str.ofString "run") 4 nJ:=XK_run.p
 have C_reading:Callee P w K mg base 2 (Str.ofString "reading") 2 eL:=wW T D_reading C_vote_of
 have C_bit_at:Callee P w K mg base 1 (Str.ofString "bit_at") 2 eT:=zd T D_bit_at
 have C_read_at:Callee P w K mg base 2 (Str.ofString "read_at") 2 eJ:=we T D_read_at C_bit_at
 have C_told:Callee P w K mg base 3 (Str.ofString "told") 1 lH:=Ds T D_told C_reading C_read_at
 have XK_all_inputs:ay P w K mg base cl 1 (Str.ofString "all_inputs") 1 j4:=qG T D_all_inputs
 have XP_all_inputs:ay P w K mg base cl 1 (Str.ofString "all_inputs") 1 er:=XK_all_inputs.p
 have C_mask_of:Callee P w K mg base 1 (Str.ofString "mask_of") 1 eK:=wx T D_mask_of
 have C_in_mask:Callee P w K mg base 2 (Str.ofString "in_mask") 2 gh:=wF T D_in_mask C_mask_of
 have XK_Bench___init__:rO P w K mg base cl 3 0 (Str.ofString "Bench") 1 bA:=de T D_Bench___init__ C_mask_of C_in_mask XP_all_inputs
 have XK_Bench_tells:fT P w K mg base cl 4 0 (Str.ofString "tells") 2 jJ:=ei T D_Bench_tells XP_out_masks XP_wire_masks
 have XP_Bench_tells:fT P w K mg base cl 4 0 (Str.ofString "tells") 2 dI:=XK_Bench_tells.p
 have XK_Bench_readings:fT P w K mg base cl 5 0 (Str.ofString "readings") 1 gI:=dc T D_Bench_readings C_reading XP_Bench_tells
 have XP_Bench_readings:fT P w K mg base cl 5 0 (Str.ofString "readings") 1 bQ:=XK_Bench_readings.p
 have XK_is_sound:ay P w K mg base cl 6 (Str.ofString "is_sound") 1 mw:=uh T D_is_sound XK_Bench___init__ XP_Bench_readings
 have XP_is_sound:ay P w K mg base cl 6 (Str.ofString "is_sound") 1 fP:=XK_is_sound.p
 have XK_Bench_column:fT P w K mg base cl 3 0 (Str.ofString "column") 1 jg:=dP T D_Bench_column C_read_at
 have XP_Bench_column:fT P w K mg base cl 3 0 (Str.ofString "column") 1 dy:=XK_Bench_column.p
 have XK_columns:ay P w K mg base cl 6 (Str.ofString "columns") 1 nS:=wy T D_columns XK_Bench___init__ XP_Bench_readings XP_Bench_column
 have XP_columns:ay P w K mg base cl 6 (Str.ofString "columns") 1 fF:=XK_columns.p
 have C_law_cell_at:Callee P w K mg base 1 (Str.ofString "_law_cell_at") 2 dA:=oG T D_law_cell_at
 have XK_law_reel:ay P w K mg base cl 1 (Str.ofString "_law_reel") 1 dR:=uv T D_law_reel
 have XP_law_reel:ay P w K mg base cl 1 (Str.ofString "_law_reel") 1 qW:=XK_law_reel.p
 have XK_law_take:ay P w K mg base cl 1 (Str.ofString "_law_take") 2 ma:=ur T D_law_take
 have XP_law_take:ay P w K mg base cl 1 (Str.ofString "_law_take") 2 az:=XK_law_take.p
 have XK_law_names:ay P w K mg base cl 2 (Str.ofString "_law_names") 2 lu:=rP T D_law_names XP_law_take
 have XP_law_names:ay P w K mg base cl 2 (Str.ofString "_law_names") 2 eX:=XK_law_names.p
 have XK_law_gate:ay P w K mg base cl 2 (Str.ofString "_law_gate") 3 ml:=tj T D_law_gate XP_law_take
 have XP_law_gate:ay P w K mg base cl 2 (Str.ofString "_law_gate") 3 eE:=XK_law_gate.p
 have XK_law_again:ay P w K mg base cl 2 (Str.ofString "_law_again") 3 k8:=rY T D_law_again XP_law_take
 have XP_law_again:ay P w K mg base cl 2 (Str.ofString "_law_again") 3 eY:=XK_law_again.p
 have XK_law_outs:ay P w K mg base cl 2 (Str.ofString "_law_outs") 4 md:=tY T D_law_outs XP_law_take
 have XP_law_outs:ay P w K mg base cl 2 (Str.ofString "_law_outs") 4 fU:=XK_law_outs.p
 have XK_law_net:ay P w K mg base cl 3 (Str.ofString "_law_net") 4 mY:=wz T D_law_net XP_law_names XP_law_take XK_law_reel XP_law_again XP_law_gate XP_law_outs
 have XP_law_net:ay P w K mg base cl 3 (Str.ofString "_law_net") 4 i4:=XK_law_net.p
 have C_law_bits:Callee P w K mg base 1 (Str.ofString "_law_bits") 2 fB:=t4 T D_law_bits
 have XK_law_by_runs:ay P w K mg base cl 5 (Str.ofString "_law_by_runs") 1 jM:=oX T D_law_by_runs C_law_bits C_told XP_run
 have XP_law_by_runs:ay P w K mg base cl 5 (Str.ofString "_law_by_runs") 1 eQ:=XK_law_by_runs.p
 exact(bM (cl:=cl) (N:=j5) (F:=pf) (k:=6) DG.2 oB.2 F gQ (fun cdv A outer s H E hr=>(av (bb gQ.nd rfl (Or.inr rfl) (aT XK_law_reel hr (by decide) rfl (ah (ao (bW C_law_cell_at hr (by decide) rfl (ab (aa 0) (ab af aj)) (aV (aV cx)))) aF) (ae aB))) (av (bb gQ.nd rfl (Or.inl rfl) (ao (xW (aa 0) (ni af) (ni af)))) (av (eA PassesOwn.never rfl (cH (cm (aL nR af (aU di rfl T.z_len PySem.boot_len (ab (aa 2) aj))) rfl T.z_range)) (a_ gQ.nd rfl (Or.inl rfl)) (aP (bb gQ.nd rfl (Or.inl rfl) (ox ft (ao (aa 2)) (Cr (ah (aT XP_law_take hr (by decide) rfl (ah (aM 1) (ah (ao (aL BI af af)) aF)) (ae (ae aB))) aF)))))) (av (bb gQ.nd rfl (Or.inl rfl) (aT XP_law_net hr (by decide) rfl (ah (aM 1) (ah (ao (aa 2)) (ah (ao af) (ah (ao af) aF)))) (ae (ae (ae (ae aB)))))) (av (Dk (ao (aa 4)) (mS rfl (d3 (a_ gQ.nd rfl (Or.inl rfl)) (d3 (a_ gQ.nd rfl (Or.inl rfl)) (d3 (a_ gQ.nd rfl (Or.inl rfl)) lq))))) (av (nX (zY.pb (Dh (qb Ci (aT XP_is_sound hr (by decide) rfl (ah (ao (aa 4)) aF) (ae aB)) (ao tm) (bX _)) (Be (qb (Dm hr.units) (aT XP_columns hr (by decide) rfl (ah (ao (aa 4)) aF) (ae aB)) (aT XP_law_by_runs hr (by decide) rfl (ah (ao (aa 4)) aF) (ae aB)) (bX _))))) (aP (cO (ao tm))) jS) (av (bb gQ.nd rfl (Or.inr rfl) (ao (aL ft (aU (FQ rfl) rfl T.z_sum PyProof.Rows.boot_sum (ab (c7 (iF rfl (b_.of (own:=[(Str.ofString "name"),(Str.ofString "width")]) (kp:=[]) (kn:=[]) (sc:=oB.1) (N:=j5) rfl rfl (by decide+kernel)) (eR (aa 5)) (fun _ _ _=>(rS rfl (iJ (dC (show List.Nodup [(Str.ofString "name"),(Str.ofString "width")] from by decide+kernel) rfl (Or.inl rfl)) (iJ (dC (show List.Nodup [(Str.ofString "name"),(Str.ofString "width")] from by decide+kernel) rfl (Or.inl rfl)) pI)))) (fun _ _ _=>gp) (fun _ _ _=>(aa 1)))) aj)) (aU di rfl T.z_len PySem.boot_len (ab (aa 6) aj))))) (av (iH rfl gQ.nd rfl rfl (b_.of (own:=[(Str.ofString "k")]) (kp:=[1,8]) (kn:=[(Str.ofString "reel"),(Str.ofString "wires")]) (sc:=oB.1) (N:=j5) rfl rfl (by decide+kernel)) (cH (cm af rfl T.z_range)) (fun _ _ _=>(a_ (show List.Nodup [(Str.ofString "k"),(Str.ofString "reel"),(Str.ofString "wires")] from by decide+kernel) rfl (Or.inl rfl))) (fun _ _ _=>eF) (fun _ _ _=>(aT XP_law_take hr (by decide) rfl (ah (aM 1) (ah (ao (aa 2)) aF)) (ae (ae aB))))) (av (bb gQ.nd rfl (Or.inr rfl) (aT XP_columns hr (by decide) rfl (ah (ao (bC (ab (aa 5) (ab (aa 6) (ab (c7 (bR (ab (bC (ab bp (ab (bC (ab (aH (aa 9) af (fun _ _=>rfl)) aj)) aj))) (ab (bC (ab bp (ab (bC (ab (aH (aa 9) af (fun _ _=>rfl)) aj)) aj))) (ab (bC (ab bp (ab (bC (ab (aH (aa 9) af (fun _ _=>rfl)) aj)) aj))) aj))))) aj))))) aF) (ae aB))) (av (bb gQ.nd rfl (Or.inl rfl) (aT XP_is_sound hr (by decide) rfl (ah (ao (bC (ab (aa 5) (ab (aa 6) (ab (c7 (bR (ab (bC (ab bp (ab (bC (ab (aH (aa 9) af (fun _ _=>rfl)) (ab (aH (aa 9) af (fun _ _=>rfl)) aj))) aj))) aj))) aj))))) aF) (ae aB))) (av (nX (kW (mW (vM (A7 (Bq (Bc (aa 11) (by decide) rfl T.z_isinstance rfl T.z_bool PyProof.Rows.boot_bool))) (rG (bV (Dm hr.units) (aa 11) (vf (jk hr.units) (aH (aa 10) af (fun _ _=>rfl)) (aH (aa 10) af (fun _ _=>rfl)) (bX _)) (bX _)))))) (aP (cO (ao tm))) jS) (av (iH rfl gQ.nd rfl rfl (b_.of (own:=[(Str.ofString "k")]) (kp:=[10]) (kn:=[(Str.ofString "alone")]) (sc:=oB.1) (N:=j5) rfl rfl (by decide+kernel)) (cH (cm (aL BX af (aU di rfl T.z_len PySem.boot_len (ab (aa 5) aj))) rfl T.z_range)) (fun _ _ _=>(a_ (show List.Nodup [(Str.ofString "k"),(Str.ofString "alone")] from by decide+kernel) rfl (Or.inl rfl))) (fun _ _ _=>eF) (fun _ _ _=>(ao (fD DX rfl T.z_int PyProof.Rows.boot_int (ab (vf Di (aL ft (aL ft (aH (aH (aa 1) af (fun _ _=>rfl)) (aa 0) (fun _ _=>rfl)) (aH (aH (aa 1) af (fun _ _=>rfl)) (aa 0) (fun _ _=>rfl))) (aH (aH (aa 1) af (fun _ _=>rfl)) (aa 0) (fun _ _=>rfl))) af (bX _)) aj))))) (aP (cO (qF (jk hr.units) (aT XP_columns hr (by decide) rfl (ah (ao (bC (ab (aa 5) (ab (aa 6) (ab (c7 (bR (ab (bC (ab bp (ab (fD lh rfl T.z_tuple PyProof.Rows.boot_tuple (ab (aa 9) aj)) aj))) aj))) aj))))) aF) (ae aB)) (ao (c7 (bR (ab (aa 12) aj)))) (bX _)))))))))))))))))).imp fun _ _ _ _ h=>Cv h
end K13
end
section
set_option maxRecDepth 100000
set_option maxHeartbeats 4000000
namespace K13
open PySem PySem.Spec PyProof.Rows L2 L3
theorem gL{S:aJ}{k:Nat}{o x:SO}(h:S[k]? =some x):(S.set k o)[k]? =some o:=by
 obtain⟨h1,_⟩:=List.getElem?_eq_some_iff.mp h
 rw[List.getElem?_set_self h1]
noncomputable def mv(k:Nat)(S:aJ):Prop:=Flat S∧∃a c,S[k]? =some (.lst [.int a, .int c])
structure Ev (k:Nat) (S S1:aJ):Prop where
 p:mv k S1
 len:S1.length=S.length
 oth:∀j,j≠k→S1[j]? =S[j]?
theorem Ev.refl{k:Nat}{S:aJ}(p:mv k S):Ev k S S:=⟨p,rfl,fun _ _=>rfl⟩
theorem Ev.trans{k:Nat}{S S1 S2:aJ}(a:Ev k S S1)(b:Ev k S1 S2):Ev k S S2:=⟨b.p,b.len.trans a.len,fun j h=>(b.oth j h).trans (a.oth j h)⟩
theorem mv.lt{k:Nat}{S:aJ}(p:mv k S):k < S.length:=by
 obtain⟨_,a,c,e⟩:=p
 exact(List.getElem?_eq_some_iff.mp e).1
theorem kg(ds:List D):∀n,mE n (.lst ds)=true:=fun _=>rfl
theorem qa{a b:Int}(h:0 < b)(h2:b.natAbs.log2 < 9000):pZ (.int a) (.int b)= .ok (.int (a / b)):=by unfold pZ qi;exact bB _ ⟨h,h2⟩
theorem pM{m:Int}(h0:0 < m)(h:m < 1000000):m.natAbs.log2 < 9000:=by
 have h1:m.natAbs≠0:=by omega
 have:m.natAbs.log2 < 20:=(Nat.log2_lt h1).mpr (by omega)
 omega
theorem qt{S:aJ}{k:Nat}{m:Int}(p:mv k S)(hm:0 < m)(hm2:m.natAbs.log2 < 9000){Q:V3→aJ→Prop}
 (h:∀(r:Int) S1,0≤r→r < m→Ev k S S1→Q (.d (.int r)) S1):W3 (az [.loc k, .d (.int m)] S) Q:=by
 obtain⟨hL,a,c,e⟩:=p
 have fin:∀(r:Int) S2,0≤r→r < m→Ev k S S2→Flat S2∧d8 S.length (.d (.int r))=true∧∃d,res S2 (.d (.int r))=some d∧Q (.d d) (S2.take S.length):=fun r S2 h1 h2 v=>by
  refine⟨v.p.1,by unfold d8;rfl, .int r,by unfold res;rfl,?_⟩
  rw[List.take_of_length_le (by have:=v.len;omega)]
  exact h r S2 h1 h2 v
 have h0:cw (.lst [.int a, .int c]) (.int 0)= .ok (.int a):=rfl
 have h1:cw (.lst [.int a, .int c]) (.int 1)= .ok (.int c):=rfl
 unfold az
 refine mZ (qe rfl ?_)
 simp only[bx,ja,List.map_cons,List.map_nil,List.length_cons,List.length_nil,List.replicate,List.cons_append,List.nil_append,Nat.reduceAdd,Nat.reduceSub]
 unfold kl
 by_cases hc:(1000000000000000000:Int)≤a
 ·refine Cn (s_ (Cu (b:=true) ?_ ?_))
  ·simp (implicitDefEqProofs:=false) (disch:=first | omega | decide) only[mH,cz,eN,iI,sG,rZ,l4,rg,rL,el,nU,i9,r_,ai,eC,e2,eNew,lY,aK,dv,tq,vO,vY,gS,q5,rK,BD,rn,sE,oO,kF,zy,b2,lW,kq,qR,nM,oC,dE,nList,aI,au,sQ,l_,jF,iu,dH,iO,mq,gG,n4,lD,xj,BM,tO,zT,ll,qi,uI,km,ik,sU,nc,jC,cInt,cStr,m7,ee,l6,cK,qm,oa,cy,jb,eW,je,jB,g6,oI,D.atom,tyName,R.aS,R.eD,List.map_cons,List.map_nil,List.map_append,List.set_cons_zero,List.set_cons_succ,List.getElem?_cons_zero,List.getElem?_cons_succ,List.length_cons,List.length_nil,List.nil_append,List.cons_append,List.append_nil,List.length_map,List.length_append,List.replicate,Nat.reduceAdd,Nat.reduceSub,Nat.zero_add,decide_true,decide_false,Nat.lt_add_one,Nat.reduceLT,Nat.reduceLeDiff,Nat.reduceEqDiff,if_true,if_false,Bool.false_eq_true,ite_true,ite_false,Bool.true_or,Bool.or_true,Bool.true_and,Bool.and_true,beq_self_eq_true,down,bz,res,jl,bx,fk,kX,ic,vg,qP,wg,Option.map_some,Option.bind_some,fu,cg,m8,jd,f7,i_,bB,decide_eq_true_eq,Int.reduceToNat,e,h0]
   simp [hc]
  rw[if_pos rfl]
  refine aQ (br (by simp only[List.length_cons,List.length_nil,List.length_set];omega) (qQ (d:= .int (a % m)) ?_ rfl ⟨_,rfl,?_⟩))
  ·simp (implicitDefEqProofs:=false) (disch:=first | omega | decide) only[mH,cz,eN,iI,sG,rZ,l4,rg,rL,el,nU,i9,r_,ai,eC,e2,eNew,lY,aK,dv,tq,vO,vY,gS,q5,rK,BD,rn,sE,oO,kF,zy,b2,lW,kq,qR,nM,oC,dE,nList,aI,au,sQ,l_,jF,iu,dH,iO,mq,gG,n4,lD,xj,BM,tO,zT,ll,qi,uI,km,ik,sU,nc,jC,cInt,cStr,m7,ee,l6,cK,qm,oa,cy,jb,eW,je,jB,g6,oI,D.atom,tyName,R.aS,R.eD,List.map_cons,List.map_nil,List.map_append,List.set_cons_zero,List.set_cons_succ,List.getElem?_cons_zero,List.getElem?_cons_succ,List.length_cons,List.length_nil,List.nil_append,List.cons_append,List.append_nil,List.length_map,List.length_append,List.replicate,Nat.reduceAdd,Nat.reduceSub,Nat.zero_add,decide_true,decide_false,Nat.lt_add_one,Nat.reduceLT,Nat.reduceLeDiff,Nat.reduceEqDiff,if_true,if_false,Bool.false_eq_true,ite_true,ite_false,Bool.true_or,Bool.or_true,Bool.true_and,Bool.and_true,beq_self_eq_true,down,bz,res,jl,bx,fk,kX,ic,vg,qP,wg,Option.map_some,Option.bind_some,fu,cg,m8,jd,f7,i_,bB,decide_eq_true_eq,Int.reduceToNat,e,h0]
  simp only[List.set_cons_succ,List.set_cons_zero]
  refine aQ (xY (qQ (d:= .int (a / m)) ?_ rfl (w_var (v:= .loc k) rfl (cQ (d:= .int 0) rfl ⟨_,k,0,_,0,rfl,rfl,rfl,e,rfl,_,rfl,?_⟩))))
  ·refine aG (a:= .int a) (b:= .int m) ?_ rfl (qa hm hm2)
   simp (implicitDefEqProofs:=false) (disch:=first | omega | decide) only[mH,cz,eN,iI,sG,rZ,l4,rg,rL,el,nU,i9,r_,ai,eC,e2,eNew,lY,aK,dv,tq,vO,vY,gS,q5,rK,BD,rn,sE,oO,kF,zy,b2,lW,kq,qR,nM,oC,dE,nList,aI,au,sQ,l_,jF,iu,dH,iO,mq,gG,n4,lD,xj,BM,tO,zT,ll,qi,uI,km,ik,sU,nc,jC,cInt,cStr,m7,ee,l6,cK,qm,oa,cy,jb,eW,je,jB,g6,oI,D.atom,tyName,R.aS,R.eD,List.map_cons,List.map_nil,List.map_append,List.set_cons_zero,List.set_cons_succ,List.getElem?_cons_zero,List.getElem?_cons_succ,List.length_cons,List.length_nil,List.nil_append,List.cons_append,List.append_nil,List.length_map,List.length_append,List.replicate,Nat.reduceAdd,Nat.reduceSub,Nat.zero_add,decide_true,decide_false,Nat.lt_add_one,Nat.reduceLT,Nat.reduceLeDiff,Nat.reduceEqDiff,if_true,if_false,Bool.false_eq_true,ite_true,ite_false,Bool.true_or,Bool.or_true,Bool.true_and,Bool.and_true,beq_self_eq_true,down,bz,res,jl,bx,fk,kX,ic,vg,qP,wg,Option.map_some,Option.bind_some,fu,cg,m8,jd,f7,i_,bB,decide_eq_true_eq,Int.reduceToNat,e,h0]
  refine eG (cQ (d:= .int (a % m)) rfl ⟨_,rfl,_,rfl,?_⟩)
  exact fin _ _ (Int.emod_nonneg _ (by omega)) (Int.emod_lt_of_pos _ hm) ⟨⟨hL.set _ (kg _),_,_,gL e⟩,List.length_set,fun j hj=>List.getElem?_set_ne (Ne.symm hj)⟩
 ·refine aQ (s_ (Cu (b:=false) ?_ ?_))
  ·simp (implicitDefEqProofs:=false) (disch:=first | omega | decide) only[mH,cz,eN,iI,sG,rZ,l4,rg,rL,el,nU,i9,r_,ai,eC,e2,eNew,lY,aK,dv,tq,vO,vY,gS,q5,rK,BD,rn,sE,oO,kF,zy,b2,lW,kq,qR,nM,oC,dE,nList,aI,au,sQ,l_,jF,iu,dH,iO,mq,gG,n4,lD,xj,BM,tO,zT,ll,qi,uI,km,ik,sU,nc,jC,cInt,cStr,m7,ee,l6,cK,qm,oa,cy,jb,eW,je,jB,g6,oI,D.atom,tyName,R.aS,R.eD,List.map_cons,List.map_nil,List.map_append,List.set_cons_zero,List.set_cons_succ,List.getElem?_cons_zero,List.getElem?_cons_succ,List.length_cons,List.length_nil,List.nil_append,List.cons_append,List.append_nil,List.length_map,List.length_append,List.replicate,Nat.reduceAdd,Nat.reduceSub,Nat.zero_add,decide_true,decide_false,Nat.lt_add_one,Nat.reduceLT,Nat.reduceLeDiff,Nat.reduceEqDiff,if_true,if_false,Bool.false_eq_true,ite_true,ite_false,Bool.true_or,Bool.or_true,Bool.true_and,Bool.and_true,beq_self_eq_true,down,bz,res,jl,bx,fk,kX,ic,vg,qP,wg,Option.map_some,Option.bind_some,fu,cg,m8,jd,f7,i_,bB,decide_eq_true_eq,Int.reduceToNat,e,h0]
   simp [hc]
  rw[if_neg (by decide)]
  refine og ⟨_,rfl,?_⟩
  refine aQ (xY (qQ (d:= .int ((c*48271+11) % 2147483647)) ?_ rfl (w_var (v:= .loc k) rfl (cQ (d:= .int 1) rfl ⟨_,k,1,_,1,rfl,rfl,rfl,e,rfl,_,rfl,?_⟩))))
  ·simp (implicitDefEqProofs:=false) (disch:=first | omega | decide) only[mH,cz,eN,iI,sG,rZ,l4,rg,rL,el,nU,i9,r_,ai,eC,e2,eNew,lY,aK,dv,tq,vO,vY,gS,q5,rK,BD,rn,sE,oO,kF,zy,b2,lW,kq,qR,nM,oC,dE,nList,aI,au,sQ,l_,jF,iu,dH,iO,mq,gG,n4,lD,xj,BM,tO,zT,ll,qi,uI,km,ik,sU,nc,jC,cInt,cStr,m7,ee,l6,cK,qm,oa,cy,jb,eW,je,jB,g6,oI,D.atom,tyName,R.aS,R.eD,List.map_cons,List.map_nil,List.map_append,List.set_cons_zero,List.set_cons_succ,List.getElem?_cons_zero,List.getElem?_cons_succ,List.length_cons,List.length_nil,List.nil_append,List.cons_append,List.append_nil,List.length_map,List.length_append,List.replicate,Nat.reduceAdd,Nat.reduceSub,Nat.zero_add,decide_true,decide_false,Nat.lt_add_one,Nat.reduceLT,Nat.reduceLeDiff,Nat.reduceEqDiff,if_true,if_false,Bool.false_eq_true,ite_true,ite_false,Bool.true_or,Bool.or_true,Bool.true_and,Bool.and_true,beq_self_eq_true,down,bz,res,jl,bx,fk,kX,ic,vg,qP,wg,Option.map_some,Option.bind_some,fu,cg,m8,jd,f7,i_,bB,decide_eq_true_eq,Int.reduceToNat,e,h1]
  have hx1:0≤(c*48271+11) % 2147483647:=Int.emod_nonneg _ (by omega)
  have hx2:(c*48271+11) % 2147483647 < 2147483647:=Int.emod_lt_of_pos _ (by omega)
  generalize (c*48271+11) % 2147483647=x at hx1 hx2
  simp only[List.set_cons_succ,List.set_cons_zero]
  have e1:(S.set k (.lst [.int a, .int x]))[k]? =some (.lst [.int a, .int x]):=gL e
  have v1:Ev k S (S.set k (.lst [.int a, .int x])):=⟨⟨hL.set _ (kg _),_,_,e1⟩,List.length_set,fun j hj=>List.getElem?_set_ne (Ne.symm hj)⟩
  generalize S.set k (.lst [.int a, .int x])=S1 at e1 v1
  refine aQ (br (by simp only[List.length_cons,List.length_nil,List.length_set];omega) (qQ (d:= .int (x*x % 2147483629)) ?_ rfl ⟨_,rfl,?_⟩))
  ·have h2:cw (.lst [.int a, .int x]) (.int 1)= .ok (.int x):=rfl
   simp (implicitDefEqProofs:=false) (disch:=first | omega | decide) only[mH,cz,eN,iI,sG,rZ,l4,rg,rL,el,nU,i9,r_,ai,eC,e2,eNew,lY,aK,dv,tq,vO,vY,gS,q5,rK,BD,rn,sE,oO,kF,zy,b2,lW,kq,qR,nM,oC,dE,nList,aI,au,sQ,l_,jF,iu,dH,iO,mq,gG,n4,lD,xj,BM,tO,zT,ll,qi,uI,km,ik,sU,nc,jC,cInt,cStr,m7,ee,l6,cK,qm,oa,cy,jb,eW,je,jB,g6,oI,D.atom,tyName,R.aS,R.eD,List.map_cons,List.map_nil,List.map_append,List.set_cons_zero,List.set_cons_succ,List.getElem?_cons_zero,List.getElem?_cons_succ,List.length_cons,List.length_nil,List.nil_append,List.cons_append,List.append_nil,List.length_map,List.length_append,List.replicate,Nat.reduceAdd,Nat.reduceSub,Nat.zero_add,decide_true,decide_false,Nat.lt_add_one,Nat.reduceLT,Nat.reduceLeDiff,Nat.reduceEqDiff,if_true,if_false,Bool.false_eq_true,ite_true,ite_false,Bool.true_or,Bool.or_true,Bool.true_and,Bool.and_true,beq_self_eq_true,down,bz,res,jl,bx,fk,kX,ic,vg,qP,wg,Option.map_some,Option.bind_some,fu,cg,m8,jd,f7,i_,bB,decide_eq_true_eq,Int.reduceToNat,e1,h2]
  simp only[List.set_cons_succ,List.set_cons_zero]
  generalize x*x % 2147483629=y
  refine eG (cQ (d:= .int (y*69621 % 2147483587 / 8 % m)) ?_ ⟨_,rfl,?_⟩)
  ·refine aG (a:= .int (y*69621 % 2147483587 / 8)) (b:= .int m) (aG (a:= .int (y*69621 % 2147483587)) (b:= .int 8) ?_ rfl (qa (by omega) (by decide))) rfl (ql hm)
   simp (implicitDefEqProofs:=false) (disch:=first | omega | decide) only[mH,cz,eN,iI,sG,rZ,l4,rg,rL,el,nU,i9,r_,ai,eC,e2,eNew,lY,aK,dv,tq,vO,vY,gS,q5,rK,BD,rn,sE,oO,kF,zy,b2,lW,kq,qR,nM,oC,dE,nList,aI,au,sQ,l_,jF,iu,dH,iO,mq,gG,n4,lD,xj,BM,tO,zT,ll,qi,uI,km,ik,sU,nc,jC,cInt,cStr,m7,ee,l6,cK,qm,oa,cy,jb,eW,je,jB,g6,oI,D.atom,tyName,R.aS,R.eD,List.map_cons,List.map_nil,List.map_append,List.set_cons_zero,List.set_cons_succ,List.getElem?_cons_zero,List.getElem?_cons_succ,List.length_cons,List.length_nil,List.nil_append,List.cons_append,List.append_nil,List.length_map,List.length_append,List.replicate,Nat.reduceAdd,Nat.reduceSub,Nat.zero_add,decide_true,decide_false,Nat.lt_add_one,Nat.reduceLT,Nat.reduceLeDiff,Nat.reduceEqDiff,if_true,if_false,Bool.false_eq_true,ite_true,ite_false,Bool.true_or,Bool.or_true,Bool.true_and,Bool.and_true,beq_self_eq_true,down,bz,res,jl,bx,fk,kX,ic,vg,qP,wg,Option.map_some,Option.bind_some,fu,cg,m8,jd,f7,i_,bB,decide_eq_true_eq,Int.reduceToNat]
  exact fin _ _ (Int.emod_nonneg _ (by omega)) (Int.emod_lt_of_pos _ hm) v1
section
variable {S:aJ} {δ:DE} {k i:Nat}
theorem draw{Q:V3→aJ→Prop}{f:FD}{m:Int}(hv:δ[i]? =some (some (.loc k)))(p:mv k S)(hf:f (down δ)= .ok (.int m))(hm:0 < m)(hm2:m < 1000000)
 (h:∀(r:Int) S1,0≤r→r < m→Ev k S S1→Q (.d (.int r)) S1):W3 (bt az (ax (bw i) (ax (xP f) bG)) δ S) Q:=
 cG (aD (w_var hv (aD (cQ hf (cn (qt p hm (pM hm hm2) h))))))
theorem BJ{Q:V3→aJ→Prop}{m:Int}(hv:δ[i]? =some (some (.loc k)))(p:mv k S)(hm:0 < m)(hm2:m < 1000000)
 (h:∀(r:Nat) S1,1≤r→(r:Int)≤m→Ev k S S1→Q (.d (.int r)) S1):W3 (x2 dH (xP (eC (.int 1))) (bt az (ax (bw i) (ax (xP (eC (.int m))) bG))) δ S) Q:=
 xv (cQ rfl (draw hv p rfl hm hm2 fun r S1 h1 h2 v=>⟨_,_, .int ((1+r).toNat:Nat),rfl,rfl,by rw[Int.toNat_of_nonneg (by omega)];rfl,h _ S1 (by omega) (by omega) v⟩))
end
theorem uL(c:Int){S:aJ}{Q:V3→aJ→Prop}(hS:Flat S)(h:∀S1,mv S.length S1→S1.length=S.length+1→(∀j,j < S.length→S1[j]? =S[j]?)→Q (.loc S.length) S1):W3 (dR [.d (.int c)] S) Q:=by
 have hz:sizeLine=16777216:=sizeLine_eq
 unfold dR
 refine qe rfl ?_
 simp only[bx,iR,List.map_cons,List.map_nil,List.length_cons,List.length_nil,List.replicate,List.cons_append,List.nil_append,Nat.reduceAdd,Nat.reduceSub]
 unfold kO
 refine eG (ie (ds:=[.int (if c < 0 then -c else c), .int ((c % 2147483647+1)*742938285 % 2147483647)]) ?_ ⟨_,rfl,?_⟩)
 ·simp (implicitDefEqProofs:=false) (disch:=first | omega | decide) only[mH,cz,eN,iI,sG,rZ,l4,rg,rL,el,nU,i9,r_,ai,eC,e2,eNew,lY,aK,dv,tq,vO,vY,gS,q5,rK,BD,rn,sE,oO,kF,zy,b2,lW,kq,qR,nM,oC,dE,nList,aI,au,sQ,l_,jF,iu,dH,iO,mq,gG,n4,lD,xj,BM,tO,zT,ll,qi,uI,km,ik,sU,nc,jC,cInt,cStr,m7,ee,l6,cK,qm,oa,cy,jb,eW,je,jB,g6,oI,D.atom,tyName,R.aS,R.eD,List.map_cons,List.map_nil,List.map_append,List.set_cons_zero,List.set_cons_succ,List.getElem?_cons_zero,List.getElem?_cons_succ,List.length_cons,List.length_nil,List.nil_append,List.cons_append,List.append_nil,List.length_map,List.length_append,List.replicate,Nat.reduceAdd,Nat.reduceSub,Nat.zero_add,decide_true,decide_false,Nat.lt_add_one,Nat.reduceLT,Nat.reduceLeDiff,Nat.reduceEqDiff,if_true,if_false,Bool.false_eq_true,ite_true,ite_false,Bool.true_or,Bool.or_true,Bool.true_and,Bool.and_true,beq_self_eq_true,down,bz,res,jl,bx,fk,kX,ic,vg,qP,wg,Option.map_some,Option.bind_some,fu,cg,m8,jd,f7,i_,bB,decide_eq_true_eq,Int.reduceToNat,cAbs]
 refine h _ ⟨hS.push (kg _),_,_,by rw[List.getElem?_append_right (Nat.le_refl _),Nat.sub_self];rfl⟩ (by simp) fun j hj=>List.getElem?_append_left hj
end K13
end
section
set_option maxRecDepth 100000
set_option maxHeartbeats 4000000
namespace K13
open PySem PySem.Spec PyProof.Rows L2 L3 MT
theorem yt{a:D}{r:List D}:cw (.tup (a ::r)) (.int 0)= .ok a:=qI (by rw[hW (by omega) (by simp)];rfl)
theorem AF{a b:D}{r:List D}:cw (.tup (a ::b ::r)) (.int 1)= .ok b:=qI (by rw[hW (by omega) (by simp)];rfl)
theorem Hz{a b c:D}{r:List D}:cw (.tup (a ::b ::c ::r)) (.int 2)= .ok c:=qI (by rw[hW (by omega) (by simp)];rfl)
theorem vn{N:Nat}{a b c:M}:eM [.tup [mI N a,mI N b,mI N c]]= .ok (mI N fun p=>(a p && b p) || (a p && c p) || (b p && c p)):=by
 unfold eM pj
 refine c9 (cB ?_)
 exact aG (aG (aG (aG rfl rfl yt) (aG rfl rfl AF) (rD N a b)) (aG (aG rfl rfl yt) (aG rfl rfl Hz) (rD N a c)) (yW N _ _)) (aG (aG rfl rfl AF) (aG rfl rfl Hz) (rD N b c)) (yW N _ _)
theorem El(k j:Nat)(hk:k≤4)(hj:j≤4):ik (.str (kS k)) (.str (kS j))= .ok (.bl (decide (k=j))):=by
 show R.ok (D.bl (kS k==kS j))=_
 congr 2
 revert hk hj
 have:∀a∈List.range 5,∀b∈List.range 5,(kS a==kS b)=decide (a=b):=by decide+kernel
 intro hk hj
 exact this k (by rw[List.mem_range];omega) j (by rw[List.mem_range];omega)
theorem As{N kd:Nat}{xs:List M}(hk:kd≤4)(hx:xs.length=ar kd):eH [.str (kS kd), .tup (xs.map (mI N)),mI N one]= .ok (mI N fun p=>gv kd (xs.map (· p))):=by
 unfold eH l5
 have q:∀j,j≤4→b2 ik (ai 0) (eC (.str (kS j))) (cz jv [.str (kS kd), .tup (xs.map (mI N)),mI N one])= .ok (decide (kd=j)):=fun j hj=>iB (a:= .str (kS kd)) (b:= .str (kS j)) rfl rfl (El kd j hk hj)
 have q0:=q 0 (by omega)
 have q1:=q 1 (by omega)
 have q2:=q 2 (by omega)
 have q3:=q 3 (by omega)
 match kd,hk,xs,hx with
 | 0,_,[a],_=>
   refine c9 (NT.iU (mj q0 (cB (aG (a:=mI N one) (b:=mI N a) rfl (aG rfl rfl yt) (q4 N a)))))
 | 1,_,[a,b],_=>
   refine c9 (bS (fZ q0 rfl) (NT.iU (mj q1 (cB (aG (aG rfl rfl yt) (aG rfl rfl AF) (rD N a b))))))
 | 2,_,[a,b],_=>
   refine c9 (bS (fZ q0 rfl) (bS (fZ q1 rfl) (NT.iU (mj q2 (cB (aG (aG rfl rfl yt) (aG rfl rfl AF) (yW N a b)))))))
 | 3,_,[a,b],_=>
   refine c9 (bS (fZ q0 rfl) (bS (fZ q1 rfl) (bS (fZ q2 rfl) (NT.iU (mj q3 (cB (aG (aG rfl rfl yt) (aG rfl rfl AF) (BK N a b))))))))
 | 4,_,[a,b,c],_=>
   refine c9 (bS (fZ q0 rfl) (bS (fZ q1 rfl) (bS (fZ q2 rfl) (bS (fZ q3 rfl) (cB (aO (ds:=[.tup [mI N a,mI N b,mI N c]]) rfl vn))))))
theorem BG{N:Nat}{ws:List M}{ns:List Nat}(hn:∀n∈ns,n < ws.length)(hl:ns.length < 1000):dQ [.lst (ws.map (mI N)), .tup (ns.map nI)]= .ok (.tup ((ns.map (gm ws)).map (mI N))):=by
 have hz:sizeLine=16777216:=sizeLine_eq
 unfold dQ nq
 refine c9 (cB (aO (ds:=[.lst ((ns.map (gm ws)).map (mI N))]) (aR (gH (iG (ds:=ns.map nI) (CQ rfl) (by rw[List.length_map];omega) ?_)) rfl) rfl))
 rw[List.map_map]
 exact NT.eB nI _ fun n hn'=>⟨[.val (nI n), .val (.lst (ws.map (mI N)))],rfl,rfl,aG (a:= .lst (ws.map (mI N))) (b:=nI n) rfl rfl (D2 (hn n hn'))⟩
noncomputable def tJ(N:Nat)(S:aJ)(insD bitsD badD:D)(a5 a6 a7:Option V3):DE:=[some (.d insD),some (.d bitsD),some (.d (mI N one)),some (.d badD),some (.loc S.length),a5,a6,a7]
theorem zl{N:Nat}{S:aJ}{insD bitsD:D}{bad:List Int}{a5 a7:Option V3}{b:M}{ws:List M}(hl:ws.length < 10000) :
 W3 (eV (tJ N S insD bitsD (.tup (bad.map .int)) a5 (some (.d (mI N b))) a7) (S++[.lst (ws.map (mI N))])) fun o S1=>o= .nx (tJ N S insD bitsD (.tup (bad.map .int)) a5 (some (.d (mI N b))) a7)∧S1=S++[SO.lst ((ws++[fun p=>b p !=bad.contains (ws.length:Int)]).map (mI N))]:=by
 have hz:sizeLine=16777216:=sizeLine_eq
 unfold eV
 refine ip (k:=S.length) rfl ⟨_,bh _ _⟩ (qQ (d:=mI N fun p=>b p !=bad.contains (ws.length:Int)) ?_ rfl ⟨_,_,rfl,bh _ _,by rw[List.length_map];omega,rfl,?_⟩)
 ·have h4:(bz (S++[.lst (ws.map (mI N))]) (tJ N S insD bitsD (.tup (bad.map .int)) a5 (some (.d (mI N b))) a7))[4]? =some (.val (.lst (ws.map (mI N)))):=by
   unfold bz tJ
   show some (match res (S++[.lst (ws.map (mI N))]) (.loc S.length) with | some d=>Sl.val d | none=> .un)=_
   unfold res
   rw[bh]
  refine qA (b:=bad.contains (ws.length:Int)) (iB (a:= .int ws.length) (b:= .tup (bad.map .int)) (aO (ds:=[.lst (ws.map (mI N))]) (aR (by unfold ai;rw [h4]) rfl) (by rw[kr,List.length_map])) rfl (uZ _ _)) ?_
  rw[←zh]
  rfl
 ·rw[eP,List.map_append];rfl
theorem qV{N:Nat}{S:aJ}{bD:D}{ins:List (Str × Nat)}{bits:List M}{bad:List Int}(hB:bD= .lst (bits.map (mI N))∨bD= .tup (bits.map (mI N)))(hb:bits.length=ins.length)(hi:ins.length < 100)(hw:∀x∈ins,x.2 < 100){Q:V3→aJ→Prop}
 (h:Q (.loc S.length) (S++[.lst ((cJ ins bits bad ins.length).map (mI N))])) :
 W3 (cF [.d (.lst (ins.map inD)), .d bD, .d (mI N one), .d (.tup (bad.map .int))] S) Q:=by
 have hz:sizeLine=16777216:=sizeLine_eq
 unfold cF
 refine qe rfl ?_
 simp only[bx,eu,List.map_cons,List.map_nil,List.length_cons,List.length_nil,List.replicate,List.cons_append,List.nil_append,Nat.reduceAdd,Nat.reduceSub]
 unfold fW
 refine aQ (br (by simp only[List.length_cons,List.length_nil,List.length_set];omega) (ie (ds:=[]) rfl ⟨_,rfl,?_⟩))
 simp only[List.set_cons_succ,List.set_cons_zero]
 refine aQ (gz (kN (ds:=dO (bits.map (mI N))) (by rcases hB with rfl | rfl <;> rfl) ?_))
 have big:∀i,i≤ins.length→(cJ ins bits bad i).length≤100*i:=by
  intro i hi'
  induction i with
  | zero=>simp [cJ]
  | succ i ih=>
    have ih:=ih (by omega)
    have h1:ins[i]? =some ins[i]:=List.getElem?_eq_getElem (by omega)
    have h2:bits[i]? =some bits[i]:=List.getElem?_eq_getElem (by omega)
    unfold cJ
    rw[h1,h2]
    show(fg bad bits[i] ins[i].2 (cJ ins bits bad i)).length≤_
    rw[fK]
    have:=hw ins[i] (List.getElem_mem _)
    omega
 refine(cc (fun i δ S2=>(∃a b c,δ=tJ N S (.lst (ins.map inD)) bD (.tup (bad.map .int)) a b c)∧S2=S++[SO.lst ((cJ ins bits bad i).map (mI N))])
  ⟨⟨_,_,_,rfl⟩,rfl⟩ ?_).mono fun o S2 ⟨δ2,e2',⟨a,b,c,hδ⟩,hS⟩=>⟨δ2,e2',?_⟩
 ·rintro i v δ S2 hv ⟨⟨a,b,c,rfl⟩,rfl⟩
  obtain⟨d,hd,rfl⟩:=qx hv
  rw[List.getElem?_map] at hd
  have hib:i < bits.length:=by
   have:=(List.getElem?_eq_some_iff.mp hv).1
   simpa [dO] using this
  have h1:ins[i]? =some ins[i]:=List.getElem?_eq_getElem (by omega)
  have h2:bits[i]? =some bits[i]:=List.getElem?_eq_getElem hib
  rw[h2] at hd
  cases hd
  refine⟨tJ N S (.lst (ins.map inD)) bD (.tup (bad.map .int)) (some (.d (.int i))) (some (.d (mI N bits[i]))) c,rfl,?_⟩
  unfold gJ
  have hwi:=hw ins[i] (List.getElem_mem _)
  refine gz (kN (f_ (n:=ins[i].2) ?_ (by omega)) ?_)
  ·refine aG (a:=inD ins[i]) (b:= .int 1) (aG (a:= .lst (ins.map inD)) (b:= .int i) rfl rfl (iZ ?_)) rfl rfl
   rw[hW (by omega) (by rw[List.length_map,Int.toNat_natCast];omega)]
   simp
  refine(cc (fun j δ S3=>(∃c,δ=tJ N S (.lst (ins.map inD)) bD (.tup (bad.map .int)) (some (.d (.int i))) (some (.d (mI N bits[i]))) c)∧S3=S++[SO.lst ((fg bad bits[i] j (cJ ins bits bad i)).map (mI N))])
   ⟨⟨_,rfl⟩,rfl⟩ ?_).mono fun o S3 ⟨δ3,e3,⟨c3,hδ3⟩,hS3⟩=>⟨δ3,e3,⟨_,_,c3,hδ3⟩,?_⟩
  ·rintro j v δ S3 hv ⟨⟨c3,rfl⟩,rfl⟩
   refine⟨_,rfl,?_⟩
   have hj:j < ins[i].2:=by
    have:=(List.getElem?_eq_some_iff.mp hv).1
    rwa [List.length_map,bZ,List.length_map,List.length_range] at this
   refine(zl ?_).mono fun o S4 ⟨e4,e5⟩=>⟨_,e4,⟨_,rfl⟩,e5⟩
   rw[fK]
   have:=big i (by omega)
   omega
  ·rw[hS3,List.length_map,bZ,List.length_map,List.length_range]
   show _=S++[SO.lst ((match ins[i]?,bits[i]? with | some x,some b=>fg bad b x.2 (cJ ins bits bad i) | _,_=>cJ ins bits bad i).map (mI N))]
   rw[h1,h2]
 have hlen:((dO (bits.map (mI N))).map V3.d).length=ins.length:=by simp [dO,hb]
 rw[hlen] at hS
 subst hδ hS
 exact eG (w_var rfl ⟨_,rfl,h⟩)
section
variable {N:Nat} {ins:List (Str × Nat)} {gs:List Gt} {os:List (Str × List Nat)} {bits:List M} {turned bad:List Int}
noncomputable def r9(N:Nat)(S:aJ)(nt bitsD tD bD:D)(a6 a7 a8:Option V3):DE:=[some (.d nt),some (.d bitsD),some (.d (mI N one)),some (.d tD),some (.d bD),some (.loc S.length),a6,a7,a8]
theorem wX{S:aJ}{nt bitsD bD:D}{a8:Option V3}{g:Gt}{i:Nat}{ws:List M}(hg:kz ws.length g)(hl:ws.length < 20000) :
 W3 (gy (r9 N S nt bitsD (.tup (turned.map .int)) bD (some (.d (.int i))) (some (.d (gW g))) a8) (S++[.lst (ws.map (mI N))])) fun o S1=>(∃c,o= .nx (r9 N S nt bitsD (.tup (turned.map .int)) bD (some (.d (.int i))) (some (.d (gW g))) c))∧S1=S++[SO.lst ((ws++[fun p=>gF g ws p !=turned.contains (i:Int)]).map (mI N))]:=by
 have hz:sizeLine=16777216:=sizeLine_eq
 have ha:=yw g.1
 unfold gy
 refine aQ (br (by unfold r9;simp only[List.length_cons,List.length_nil];omega) (qQ (d:=mI N (gF g ws)) ?_ rfl ⟨_,rfl,?_⟩))
 ·have h5:(bz (S++[.lst (ws.map (mI N))]) (r9 N S nt bitsD (.tup (turned.map .int)) bD (some (.d (.int i))) (some (.d (gW g))) a8))[5]? =some (.val (.lst (ws.map (mI N)))):=by
   unfold bz r9
   show some (match res (S++[.lst (ws.map (mI N))]) (.loc S.length) with | some d=>Sl.val d | none=> .un)=_
   unfold res
   rw[bh]
  refine(aO (ds:=[.str (kS g.1), .tup ((g.2.1.map (gm ws)).map (mI N)),mI N one]) (aR (aG (a:=gW g) (b:= .int 0) rfl rfl rfl) (aR ?_ (aR rfl rfl))) (As hg.1 (by rw[List.length_map];exact hg.2.1))).trans ?_
  ·exact aO (ds:=[.lst (ws.map (mI N)), .tup (g.2.1.map nI)]) (aR (by unfold ai;rw [h5]) (aR (aG (a:=gW g) (b:= .int 1) rfl rfl rfl) rfl)) (BG hg.2.2 (by rw[hg.2.1];omega))
  ·have:(fun p=>gv g.1 ((g.2.1.map (gm ws)).map (· p)))=gF g ws:=by funext p;unfold gF;rw [List.map_map];rfl
   rw[this]
 ·show W3 (iq 5 _ (r9 N S nt bitsD (.tup (turned.map .int)) bD (some (.d (.int i))) (some (.d (gW g))) (some (.d (mI N (gF g ws))))) _) _
  refine ip (k:=S.length) rfl ⟨_,bh _ _⟩ (cQ (d:=mI N fun p=>gF g ws p !=turned.contains (i:Int)) ?_ ⟨_,_,rfl,bh _ _,by rw[List.length_map];omega,⟨_,rfl⟩,?_⟩)
  ·refine qA (b:=turned.contains (i:Int)) (iB (a:= .int i) (b:= .tup (turned.map .int)) rfl rfl (uZ _ _)) ?_
   rw[←zh]
   rfl
  ·rw[eP,List.map_append];rfl
theorem rT{S:aJ}{bD:D}(hB:bD= .lst (bits.map (mI N))∨bD= .tup (bits.map (mI N)))(NO:jj ins gs os)(hb:bits.length=ins.length)(hS:qw S){Q:V3→aJ→Prop}(h:Q (.d (.lst ((mD ins gs bits turned bad).map (mI N)))) S) :
 W3 (c5 [.d (cN ins gs os), .d bD, .d (mI N one), .d (.tup (turned.map .int)), .d (.tup (bad.map .int))] S) Q:=by
 have hz:sizeLine=16777216:=sizeLine_eq
 unfold c5
 refine ka hS (qe rfl ?_)
 simp only[bx,gd,List.map_cons,List.map_nil,List.length_cons,List.length_nil,List.replicate,List.cons_append,List.nil_append,Nat.reduceAdd,Nat.reduceSub]
 unfold iX
 refine aQ <| br (by simp only[List.length_cons,List.length_nil,List.length_set];omega) <| cG <| aD <| cQ (d:= .lst (ins.map inD)) rfl <| aD <| cQ (d:=bD) rfl <| aD <| cQ (d:=mI N one) rfl <| aD <| cQ (d:= .tup (bad.map .int)) rfl <| cn <| qV hB hb NO.hi NO.hw ⟨_,rfl,?_⟩
 simp only[List.set_cons_succ,List.set_cons_zero]
 have hwd:=sY NO.hw
 have hN:=NO.hi
 have hG:=NO.hg
 refine aQ (gz (kN (ds:=dO (gs.map gW)) rfl ?_))
 refine(cc (fun i δ S2=>(∃a b c,δ=r9 N S (cN ins gs os) bD (.tup (turned.map .int)) (.tup (bad.map .int)) a b c)∧S2=S++[SO.lst ((j0 gs turned (cJ ins bits bad ins.length) i).map (mI N))])
  ⟨⟨_,_,_,rfl⟩,rfl⟩ ?_).mono fun o S2 ⟨δ2,e2',⟨a,b,c,hδ⟩,hS2⟩=>⟨δ2,e2',?_⟩
 ·rintro i v δ S2 hv ⟨⟨a,b,c,rfl⟩,rfl⟩
  obtain⟨d,hd,rfl⟩:=qx hv
  rw[List.getElem?_map] at hd
  cases q:gs[i]? with
  | none=>rw [q] at hd;cases hd
  | some g=>
    rw[q] at hd
    cases hd
    have hi:i < gs.length:=(List.getElem?_eq_some_iff.mp q).1
    have hl:(j0 gs turned (cJ ins bits bad ins.length) i).length=fq ins+i:=by rw[kR _ (by omega),k6 hb _ (Nat.le_refl _),List.take_length]
    refine⟨r9 N S (cN ins gs os) bD (.tup (turned.map .int)) (.tup (bad.map .int)) (some (.d (.int i))) (some (.d (gW g))) c,rfl,?_⟩
    refine(wX (by rw[hl];exact NO.g i g q) (by rw[hl];omega)).mono fun o S4 ⟨⟨c4,e4⟩,e5⟩=>⟨_,e4,⟨_,_,_,rfl⟩,?_⟩
    rw[e5]
    show _=S++[SO.lst ((match gs[i]? with | some g=>j0 gs turned (cJ ins bits bad ins.length) i++[fun p=>gF g (j0 gs turned (cJ ins bits bad ins.length) i) p !=turned.contains (i:Int)] | none=>j0 gs turned (cJ ins bits bad ins.length) i).map (mI N))]
    rw[q]
 have hlen:((dO (gs.map gW)).map V3.d).length=gs.length:=by simp [dO]
 rw[hlen] at hS2
 subst hδ hS2
 exact eG (w_var rfl ⟨_,rfl,by unfold d8;exact decide_eq_true (Nat.le_refl _),⟨_,rfl⟩,_,by unfold res;rw [bh];rfl,h⟩)
noncomputable def gE(N:Nat)(os:List (Str × List Nat))(ws:List M):List D:=os.map fun x=> .tup ((tell ws x).map (mI N))
theorem vA{S:aJ}{ws:List M}(hO:os.length < 1000)(ho:∀x∈os,x.2.length < 1000∧∀w∈x.2,w < ws.length)(hS:qw S){Q:V3→aJ→Prop}(h:Q (.d (.lst (gE N os ws))) S) :
 W3 (dt [.d (cN ins gs os), .d (.lst (ws.map (mI N)))] S) Q:=by
 have hz:sizeLine=16777216:=sizeLine_eq
 unfold dt
 refine ka hS (qe rfl ?_)
 simp only[bx,fS,List.map_cons,List.map_nil,List.length_cons,List.length_nil,List.replicate,List.cons_append,List.nil_append,Nat.reduceAdd,Nat.reduceSub]
 unfold jH
 refine eG (ie (ds:=gE N os ws) ?_ ⟨_,rfl,by unfold d8;exact decide_eq_true (Nat.le_refl _),⟨_,rfl⟩,_,by unfold res;rw [bh],h⟩)
 refine iG (ds:=os.map uq) (tG (aG (a:=cN ins gs os) (b:= .int 2) rfl rfl rfl)) (by rw[List.length_map];omega) ?_
 unfold gE
 refine NT.eB uq _ fun(x:Str × List Nat) hx=>⟨[.val (.str x.1), .val (.tup (x.2.map nI)), .val (.lst (ws.map (mI N)))],rfl,rfl,?_⟩
 exact aO (ds:=[.lst (ws.map (mI N)), .tup (x.2.map nI)]) rfl (BG (ho x hx).2 (ho x hx).1)
end
end K13
end
section
set_option maxRecDepth 100000
set_option maxHeartbeats 4000000
namespace K13
open PySem PySem.Spec PyProof.Rows L2 L3 MT
noncomputable def r0(xs:List M):M:=fun p=>(A9 (xs.map (· p))).1
noncomputable def r1(xs:List M):M:=fun p=>(A9 (xs.map (· p))).2
theorem oj{n:Nat}{ds:List D}{δ:aw}{j:Int}(h:ai 0 δ= .ok (.tup ds))(hl:ds.length=n):b2 ik (aK cK (au (ai 0) aI)) (eC (.int j)) δ= .ok (decide ((n:Int)=j)):=by
 refine iB (a:= .int n) (b:= .int j) (aO (ds:=[.tup ds]) (aR h rfl) ?_) rfl ?_
 ·show R.ok (D.int ds.length)=_
  rw[hl]
 ·show R.ok (D.bl ((n:Int)==j))=_
  congr 2
theorem nQ{N:Nat}{xs:List M}(h:1≤xs.length∧xs.length≤3):eL [.tup (xs.map (mI N)),mI N one]= .ok (.tup [mI N (r0 xs),mI N (r1 xs)]):=by
 have hz:sizeLine=16777216:=sizeLine_eq
 unfold eL pR
 match xs,h with
 | [a],_=>
   refine c9 (bS (fZ (oj (n:=1) rfl rfl) rfl) (bS (iV (d:=mI N a) (qA (oj (n:=1) rfl rfl) (aG (a:= .tup [mI N a]) (b:= .int 0) rfl rfl yt)) (by simp [cz,jY])) (cB ?_)))
   exact iY (aR (aG (a:=mI N one) (b:=mI N a) rfl rfl (q4 N a)) (aR rfl rfl)) (by simp;omega)
 | [a,b],_=>
   refine c9 (NT.iU (mj (oj (n:=2) rfl rfl) (cB ?_)))
   exact iY (aR (aG (a:=mI N one) (b:=mI N fun p=>a p || b p) rfl (aG (aG rfl rfl yt) (aG rfl rfl AF) (yW N a b)) (q4 N _)) (aR (aG (aG rfl rfl yt) (aG rfl rfl AF) (rD N a b)) rfl)) (by simp;omega)
 | [a,b,c],_=>
   refine c9 (bS (fZ (oj (n:=3) rfl rfl) rfl) (bS (iV (d:=mI N fun p=>(a p && b p) || (a p && c p) || (b p && c p)) (qA (oj (n:=3) rfl rfl) (aO (ds:=[.tup [mI N a,mI N b,mI N c]]) rfl vn)) (by simp [cz,jY])) (cB ?_)))
   exact iY (aR (aG (a:=mI N one) (b:=mI N fun p=>(a p && b p) || (a p && c p) || (b p && c p)) rfl rfl (q4 N _)) (aR rfl rfl)) (by simp;omega)
theorem xm{N n:Nat}{f:M}:eT [mI N f, .int n]= .ok (.int (if decide (n < N) && f n then 1 else 0)):=by
 unfold eT sI
 refine c9 (cB ?_)
 have h:=ES N f n
 show(R.bind (R.bind (R.ok (mI N f)) fun d=>R.bind (R.ok (D.int n)) fun e=>lD d e) fun d=>R.bind (R.ok (D.int 1)) fun e=>zQ d e)=_
 exact h
theorem oF{bs:List Bool}(hl:bs.length < 100000):eK [.lst (bs.map bI)]= .ok (.int (z0 bs)):=by
 unfold eK pG
 refine c9 (bS (iV (d:= .int 0) rfl (by simp [cz,lL])) ?_)
 obtain⟨δ1,e1,a2,hδ1⟩:=o9 (t:=cy 2) (body:=jt) (ds:=(bs.map bI).reverse)
  (fun i δ=>∃a2,δ=[.val (.lst (bs.map bI)), .val (.int (z0 (bs.drop (bs.length - i)))),a2]) (δ:=[.val (.lst (bs.map bI)), .val (.int 0), .un]) ⟨.un,by simp [z0]⟩ (by
    rintro i d δ hd ⟨a2,rfl⟩
    have hi:i < bs.length:=by
     have:=(List.getElem?_eq_some_iff.mp hd).1
     rwa [List.length_reverse,List.length_map] at this
    rw[List.getElem?_reverse (by rw[List.length_map];exact hi),List.length_map,List.getElem?_map,List.getElem?_eq_getElem (by omega:bs.length - 1 - i < bs.length)] at hd
    cases hd
    have hdr:bs.drop (bs.length - (i+1))=bs[bs.length - 1 - i] ::bs.drop (bs.length - i):=by
     rw[show bs.length - (i+1)=bs.length - 1 - i by omega,List.drop_eq_getElem_cons (by omega:bs.length - 1 - i < bs.length),show bs.length - 1 - i+1=bs.length - i by omega]
    refine⟨_,?_,⟨.val (bI bs[bs.length - 1 - i]),rfl⟩⟩
    have hm:(z0 (bs.drop (bs.length - (i+1))):Int)=(z0 (bs.drop (bs.length - i)):Int)*2+(if bs[bs.length - 1 - i] then 1 else 0):=by
     rw[hdr]
     show(((if bs[bs.length - 1 - i] then 1 else 0)+2*z0 (bs.drop (bs.length - i)):Nat):Int)=_
     cases bs[bs.length - 1 - i] <;> simp <;> omega
    rw[hm]
    generalize (z0 (bs.drop (bs.length - i)):Int)=m
    generalize bs[bs.length - 1 - i]=x
    generalize D.lst (bs.map bI)=y
    rw[show cy 2 (bI x) [.val y, .val (.int m),a2]= .ok [.val y, .val (.int m), .val (bI x)] from rfl,R.aS]
    unfold jt
    exact iV (aG (a:= .int (m*2)) (b:=bI x) (aG (a:= .int m) (b:= .int 2) rfl rfl (bB _ (.inr ⟨by omega,by omega⟩))) rfl rfl) (by simp))
 refine bS (uO (ds:=(bs.map bI).reverse) rfl e1) ?_
 rw[List.length_reverse,List.length_map,Nat.sub_self,List.drop_zero] at hδ1
 subst hδ1
 exact cB rfl
noncomputable def cv:Nat→List (List Bool)
 | 0=>[[]]
 | c+1=>(cv c).flatMap fun b=>[b++[false],b++[true]]
theorem df:∀c,(cv c).length=2 ^ c
 | 0=>rfl
 | c+1=>by
   unfold cv
   rw[List.length_flatMap]
   have:(cv c).map (fun b=>[b++[false],b++[true]].length)=(cv c).map fun _=>2:=rfl
   rw[this,List.map_const',List.sum_replicate_nat,df c]
   omega
theorem jT:∀c,∀b∈cv c,b.length=c
 | 0,b,h=>by unfold cv at h;rw [List.mem_singleton.mp h];rfl
 | c+1,b,h=>by
   unfold cv at h
   obtain⟨a,ha,hb⟩:=List.mem_flatMap.mp h
   have:=jT c a ha
   simp only[List.mem_cons,List.not_mem_nil,or_false] at hb
   rcases hb with rfl | rfl <;> simp [this]
noncomputable def dD(b:List Bool):D:= .tup (b.map bI)
noncomputable def aE(c:Nat)(inp:Option V3)(a2 a3 a4:Option V3):DE:=[some (.d (nI c)),inp,a2,a3,a4]
theorem o5{c:Nat}{S:aJ}(hc:c≤10)(hS:qw S){Q:V3→aJ→Prop}(h:Q (.d (.lst ((cv c).map dD))) S):W3 (er [.d (nI c)] S) Q:=by
 have hz:sizeLine=16777216:=sizeLine_eq
 unfold er
 refine ka hS (qe rfl ?_)
 simp only[bx,gf,List.map_cons,List.map_nil,List.length_cons,List.length_nil,List.replicate,List.cons_append,List.nil_append,Nat.reduceAdd,Nat.reduceSub]
 unfold i8
 refine aQ <| br (by simp only[List.length_cons,List.length_nil,List.length_set];omega) <| ie (ds:=(cv 0).map dD) rfl ⟨_,rfl,?_⟩
 simp only[List.set_cons_succ,List.set_cons_zero]
 refine aQ <| gz <| kN (f_ (n:=c) rfl (by omega)) ?_
 refine(cc (fun i δ S2=>∃(T:aJ) (a2 a3 a4:Option V3),S2=S++T++[.lst ((cv i).map dD)]∧δ=aE c (some (.loc (S++T).length)) a2 a3 a4)
  ⟨[],none,none,none,by simp,by simp [aE]⟩ ?_).mono fun o S2 ⟨δ2,e2',T,a2,a3,a4,hS2,hδ⟩=>⟨δ2,e2',?_⟩
 ·rintro i v δ S2 hv ⟨T,a2,a3,a4,rfl,rfl⟩
  have hi:i < c:=by
   have:=(List.getElem?_eq_some_iff.mp hv).1
   rwa [List.length_map,bZ,List.length_map,List.length_range] at this
  have hpow:(cv i).length≤1024:=by
   rw[df]
   exact Nat.pow_le_pow_right (by omega) (by omega:i≤10)
  refine⟨aE c (some (.loc (S++T).length)) (some v) a3 a4,rfl,?_⟩
  unfold jz aE
  refine Ft (i:=1) rfl (bh _ _) ?_
  rw[eP]
  simp only[List.set_cons_succ,List.set_cons_zero]
  refine aQ <| br (by simp only[List.length_cons,List.length_nil,List.length_set];omega) <| ie (ds:=[]) rfl ⟨_,rfl,?_⟩
  simp only[List.set_cons_succ,List.set_cons_zero]
  generalize hU:S++T++[SO.g6]=U
  refine aQ <| gz <| kN (ds:=(cv i).map dD) rfl ?_
  refine(cc (fun j δ S3=>(∃b4,δ=[some (.d (nI c)),some (.d (.lst ((cv i).map dD))),some v,some (.loc U.length),b4])∧S3=U++[.lst ((((cv i).take j).flatMap fun b=>[b++[false],b++[true]]).map dD)])
   ⟨⟨_,rfl⟩,by simp⟩ ?_).mono fun o S3 ⟨δ3,e3,⟨b4,hδ3⟩,hS3⟩=>⟨δ3,e3,?_⟩
  ·rintro j v3 δ S3 hv3 ⟨⟨b4,rfl⟩,rfl⟩
   obtain⟨b,hb,rfl⟩:=NT.kJ hv3
   have hj:=(List.getElem?_eq_some_iff.mp hb).1
   have hbl:=jT i b (List.mem_of_getElem? hb)
   refine⟨[some (.d (nI c)),some (.d (.lst ((cv i).map dD))),some v,some (.loc U.length),some (.d (dD b))],rfl,?_⟩
   unfold jw
   generalize hL:((((cv i).take j).flatMap fun b=>[b++[false],b++[true]]).map dD)=L
   have hLl:L.length≤2048:=by
    rw[←hL,List.length_map,List.length_flatMap]
    have:((cv i).take j).map (fun b=>[b++[false],b++[true]].length)=((cv i).take j).map fun _=>2:=rfl
    rw[this,List.map_const',List.sum_replicate_nat,List.length_take]
    omega
   have add:∀(x:Bool) (δ:aw),ai 4 δ= .ok (dD b)→e2 n_ (ai 4) (dv (au (eC (bI x)) aI)) δ= .ok (dD (b++[x])):=fun x δ h4=>by
    refine aG (a:=dD b) (b:= .tup [bI x]) h4 (iY rfl (by simp;omega)) ?_
    show R.bF (decide ((b.map bI).length+[bI x].length≤sizeLine)) _=_
    rw[bB _ (by rw[List.length_map];simp;omega)]
    unfold dD
    rw[List.map_append];rfl
   refine aQ <| ip (k:=U.length) rfl ⟨_,bh _ _⟩ <| cQ (d:=dD (b++[false])) (add false _ rfl) ⟨_,_,rfl,bh _ _,by omega,_,rfl,?_⟩
   rw[eP]
   refine ip (k:=U.length) rfl ⟨_,bh _ _⟩ <| cQ (d:=dD (b++[true])) (add true _ rfl) ⟨_,_,rfl,bh _ _,by rw[List.length_append];simp;omega,_,rfl,⟨_,rfl⟩,?_⟩
   rw[eP,List.take_add_one,hb,List.flatMap_append,List.map_append,hL]
   simp
  rw[List.length_map,List.length_map,List.take_length] at hS3
  subst hδ3 hS3
  refine br (by simp only[List.length_cons,List.length_nil,List.length_set];omega) <| w_var (v:= .loc U.length) rfl ⟨_,rfl,T++[SO.g6],some v,some (.loc U.length),b4,?_,?_⟩
  ·rw[←hU,List.append_assoc S];rfl
  ·rw[←hU,List.append_assoc S];rfl
 have hlen:((bZ 0 c).map V3.d).length=c:=by simp [bZ]
 rw[hlen] at hS2
 subst hδ hS2
 unfold aE
 refine eG (w_var rfl ⟨_,rfl,by unfold d8;exact decide_eq_true (by rw[List.length_append];omega),⟨T++[.lst ((cv c).map dD)],by rw[List.append_assoc]⟩,_,by unfold res;rw [bh],h⟩)
end K13
end
section
set_option maxRecDepth 100000
set_option maxHeartbeats 4000000
namespace K13
open PySem PySem.Spec PyProof.Rows L2 L3 MT
noncomputable def FH(c j:Nat):M:=fun p=>((cv c).getD p []).getD j false
noncomputable def oM(c:Nat):List M:=(List.range c).map (FH c)
theorem Df{b:List Bool}{j:Nat}(h:j < b.length):cw (dD b) (.int j)= .ok (bI (b.getD j false)):=by
 refine qI ?_
 rw[hW (by omega) (by rw[List.length_map,Int.toNat_natCast];exact h)]
 rw[List.getD_eq_getElem?_getD,List.getElem?_eq_getElem h]
 simp
theorem tp{c j:Nat}(hc:c≤10)(hj:j < c):gh [.lst ((cv c).map dD), .int j]= .ok (mI (2 ^ c) (FH c j)):=by
 have hz:sizeLine=16777216:=sizeLine_eq
 have hp:2 ^ c≤1024:=Nat.pow_le_pow_right (by omega) hc
 unfold gh px
 refine c9 (cB (aO (ds:=[.lst (((cv c).map fun b=>b.getD j false).map bI)]) (aR (gH (iG (ds:=(cv c).map dD) rfl (by rw[List.length_map,df];omega) ?_)) rfl) ?_))
 ·rw[List.map_map]
  exact NT.eB dD _ fun b hb=>⟨[.val (dD b), .val (.int j)],rfl,rfl,aG (a:=dD b) (b:= .int j) rfl rfl (Df (by rw[jT c b hb];exact hj))⟩
 ·rw[oF (by rw[List.length_map,df];omega),zq,List.length_map,df]
  unfold mI
  congr 3
  refine jU fun p hp'=>?_
  unfold FH
  rw[List.getD_eq_getElem?_getD,List.getElem?_map,List.getD_eq_getElem?_getD (l:=cv c),List.getElem?_eq_getElem (by rw[df];exact hp')]
  rfl
section
variable {c:Nat} {ins:List (Str × Nat)} {gs:List Gt} {os:List (Str × List Nat)}
noncomputable abbrev wc:=Str.ofString "net"
noncomputable abbrev pE:=Str.ofString "many_inputs"
noncomputable abbrev pB:=Str.ofString "full"
noncomputable abbrev lS:=Str.ofString "in_masks"
noncomputable def cP(c:Nat)(nt:D):List (Str × V3):=[(wc, .d nt),(pE, .d (nI (2 ^ c))),(pB, .d (mI (2 ^ c) one)),(lS, .d (.lst ((oM c).map (mI (2 ^ c)))))]
theorem vF{S:aJ}(hc:ins.length=c)(hc1:c≤10)(hS:qw (S++[.ins 0 []])){Q:V3→aJ→Prop}(h:Q (.d .cD) (S++[.ins 0 (cP c (cN ins gs os))])) :
 W3 (bA [.loc S.length, .d (cN ins gs os)] (S++[.ins 0 []])) Q:=by
 have hz:sizeLine=16777216:=sizeLine_eq
 have hp:2 ^ c≤1024:=Nat.pow_le_pow_right (by omega) hc1
 unfold bA
 refine GD rfl ?_
 simp only[bx,cE,List.map_cons,List.map_nil,List.length_cons,List.length_nil,List.replicate,List.cons_append,List.nil_append,Nat.reduceAdd,Nat.reduceSub]
 unfold fL
 refine aQ <| br (by simp only[List.length_cons,List.length_nil,List.length_set];omega) <| cG <| aD <| cQ (d:=nI c) (aO (ds:=[.lst (ins.map inD)]) rfl (by rw[kr,List.length_map,hc];rfl)) <| cn <| o5 hc1 hS ⟨_,rfl,?_⟩
 simp only[List.set_cons_succ,List.set_cons_zero]
 refine aQ <| kZ (k:=S.length) <| cQ (d:=cN ins gs os) rfl <| w_var (v:= .loc S.length) rfl ⟨_,rfl,bh _ _,by simp,_,rfl,?_⟩
 rw[eP]
 refine aQ <| kZ (k:=S.length) <| cQ (d:=nI (2 ^ c)) (aO (ds:=[.lst ((cv c).map dD)]) rfl (by rw[kr,List.length_map,df];rfl)) <| w_var (v:= .loc S.length) rfl ⟨_,rfl,bh _ _,by unfold sL;simp,_,rfl,?_⟩
 rw[eP]
 refine aQ <| kZ (k:=S.length) <| cQ (d:=mI (2 ^ c) one) (aO (ds:=[.lst (((cv c).map fun _=>true).map bI)]) (aR (gH (iG (ds:=(cv c).map dD) rfl (by rw[List.length_map,df];omega) ?_)) rfl) ?_) <| w_var (v:= .loc S.length) rfl ⟨_,rfl,bh _ _,?_,_,rfl,?_⟩
 ·rw[List.map_map]
  exact NT.eB dD _ fun b hb=>⟨[.val (dD b)],rfl,rfl,rfl⟩
 ·rw[oF (by rw[List.length_map,df];omega),zq,List.length_map,df]
  unfold mI
  congr 3
  refine jU fun p hp'=>?_
  rw[List.getD_eq_getElem?_getD,List.getElem?_map,List.getElem?_eq_getElem (by rw[df];exact hp')]
  rfl
 ·exact(by decide:2 < 1000)
 rw[eP]
 refine kZ (k:=S.length) <| cQ (d:= .lst ((oM c).map (mI (2 ^ c)))) (gH (iG (ds:=bZ 0 c) (f_ (n:=c) (aO (ds:=[.lst (ins.map inD)]) rfl (by rw[kr,List.length_map,hc])) (by omega)) (by simp [bZ];omega) ?_)) <| w_var (v:= .loc S.length) rfl ⟨_,rfl,bh _ _,?_,_,rfl,?_⟩
 ·unfold oM
  rw[List.map_map]
  unfold bZ
  refine NT.eB (fun i:Nat=>D.int (0+(i:Int))) _ fun j hj=>⟨[.val (.int (0+(j:Int))), .val (.lst ((cv c).map dD))],rfl,rfl,aO (ds:=[.lst ((cv c).map dD), .int j]) ?_ (tp hc1 (List.mem_range.mp hj))⟩
  rw[Int.zero_add]
  rfl
 ·exact(by decide:3 < 1000)
 rw[eP]
 exact h
end
end K13
end
section
set_option maxRecDepth 100000
set_option maxHeartbeats 4000000
namespace K13
open PySem PySem.Spec PyProof.Rows L2 L3 MT
section
variable {c:Nat} {ins:List (Str × Nat)} {gs:List Gt} {os:List (Str × List Nat)} {S:aJ} {k:Nat} {turned bad:List Int}
theorem HY:(pE==wc)=false:=by decide+kernel
theorem HV:(pB==wc)=false:=by decide+kernel
theorem I_:(pB==pE)=false:=by decide+kernel
theorem Jj:(lS==wc)=false:=by decide+kernel
theorem IU:(lS==pE)=false:=by decide+kernel
theorem Jl:(lS==pB)=false:=by decide+kernel
theorem zE{nt:D}:(cP c nt).lookup wc=some (.d nt):=by unfold cP;rw [List.lookup_cons,beq_self_eq_true]
theorem Ag{nt:D}:(cP c nt).lookup pE=some (.d (nI (2 ^ c))):=by unfold cP;rw [List.lookup_cons,HY,List.lookup_cons,beq_self_eq_true]
theorem qM{nt:D}:(cP c nt).lookup pB=some (.d (mI (2 ^ c) one)):=by unfold cP;rw [List.lookup_cons,HV,List.lookup_cons,I_,List.lookup_cons,beq_self_eq_true]
theorem yQ{nt:D}:(cP c nt).lookup lS=some (.d (.lst ((oM c).map (mI (2 ^ c))))):=by unfold cP;rw [List.lookup_cons,Jj,List.lookup_cons,IU,List.lookup_cons,Jl,List.lookup_cons,beq_self_eq_true]
theorem oe:(oM c).length=c:=by unfold oM;simp
noncomputable abbrev Wd(c:Nat)(ins:List (Str × Nat))(gs:List Gt)(turned bad:List Int):List M:=mD ins gs (oM c) turned bad
theorem Ab(m:Str)(nt:D)(h1:(m==wc)=false)(h2:(m==pE)=false)(h3:(m==pB)=false)(h4:(m==lS)=false):(cP c nt).lookup m=none:=by unfold cP;rw [List.lookup_cons,h1,List.lookup_cons,h2,List.lookup_cons,h3,List.lookup_cons,h4];rfl
theorem yE(NO:jj ins gs os)(hc:ins.length=c)(hS:qw S)(hb:S[k]? =some (.ins 0 (cP c (cN ins gs os)))){Q:V3→aJ→Prop}(h:Q (.d (.lst (gE (2 ^ c) os (Wd c ins gs turned bad)))) S) :
 W3 (dI [.loc k, .d (.tup (turned.map .int)), .d (.tup (bad.map .int))] S) Q:=by
 have hz:sizeLine=16777216:=sizeLine_eq
 unfold dI
 refine ka hS (qe rfl ?_)
 simp only[bx,fO,List.map_cons,List.map_nil,List.length_cons,List.length_nil,List.replicate,List.cons_append,List.nil_append,Nat.reduceAdd,Nat.reduceSub]
 unfold hJ
 have hl:(oM c).length=ins.length:=by rw[oe,hc]
 refine eG <| cG <| aD <| w_fld (k:=k) <| w_var (v:= .loc k) rfl ⟨_,_,rfl,hb,zE,?_⟩
 refine aD <| cG <| aD <| w_fld (k:=k) <| w_var (v:= .loc k) rfl ⟨_,_,rfl,hb,zE,?_⟩
 refine aD <| w_fld (k:=k) <| w_var (v:= .loc k) rfl ⟨_,_,rfl,hb,yQ,?_⟩
 refine aD <| w_fld (k:=k) <| w_var (v:= .loc k) rfl ⟨_,_,rfl,hb,qM,?_⟩
 refine aD <| cQ (d:= .tup (turned.map .int)) rfl <| aD <| cQ (d:= .tup (bad.map .int)) rfl <| cn ?_
 refine rT (.inl rfl) NO hl hS (cn ?_)
 refine vA NO.ho (fun x hx=>⟨(NO.o x hx).1,fun w hw=>by rw[rC hl];exact(NO.o x hx).2 w hw⟩) hS ?_
 exact⟨_,rfl,by unfold d8;rfl,⟨[],by simp⟩,_,by unfold res;rfl,h⟩
noncomputable def zW(N:Nat)(os:List (Str × List Nat))(ws:List M):List D:=os.map fun x=> .tup [mI N (r0 (tell ws x)),mI N (r1 (tell ws x))]
theorem me(NO:jj ins gs os)(hc:ins.length=c)(ho:∀x∈os,1≤x.2.length∧x.2.length≤3)(hS:qw S)(hb:S[k]? =some (.ins 0 (cP c (cN ins gs os)))){Q:V3→aJ→Prop}(h:Q (.d (.lst (zW (2 ^ c) os (Wd c ins gs turned [])))) S) :
 W3 (bQ [.loc k, .d (.tup (turned.map .int))] S) Q:=by
 have hz:sizeLine=16777216:=sizeLine_eq
 have hO:=NO.ho
 unfold bQ
 refine ka hS (qe rfl ?_)
 simp only[bx,c_,List.map_cons,List.map_nil,List.length_cons,List.length_nil,List.replicate,List.cons_append,List.nil_append,Nat.reduceAdd,Nat.reduceSub]
 unfold fI
 refine eG <| gM (fun j ds S2=>S2=S∧ds=(zW (2 ^ c) os (Wd c ins gs turned [])).take j) ?_
 refine qJ <| qz (k:=k) <| w_var (v:= .loc k) rfl ⟨_,rfl,hb,Ab _ _ (by decide+kernel) (by decide+kernel) (by decide+kernel) (by decide+kernel),?_⟩
 refine aD <| cQ (d:= .tup (turned.map .int)) rfl <| aD <| cQ (d:= .tup (([]:List Int).map .int)) rfl <| cn ?_
 refine yE NO hc hS hb ⟨_,rfl,?_,⟨rfl,by simp⟩,?_,?_⟩
 ·rw[List.length_map,gE,List.length_map];omega
 ·rintro j v ds S2 hv ⟨rfl,rfl⟩
  rw[gE] at hv
  obtain⟨x,hx,rfl⟩:=NT.kJ hv
  refine⟨[some (.d (.tup ((tell (Wd c ins gs turned []) x).map (mI (2 ^ c))))),some (.loc k)],rfl,lZ ?_⟩
  rw[if_pos rfl]
  refine vP <| aD <| cQ (d:= .tup ((tell (Wd c ins gs turned []) x).map (mI (2 ^ c)))) rfl <| aD <| w_fld (k:=k) <| w_var (v:= .loc k) rfl ⟨_,_,rfl,hb,qM,cn ⟨[.tup ((tell (Wd c ins gs turned []) x).map (mI (2 ^ c))),mI (2 ^ c) one],_,rfl,nQ ?_,_,rfl,rfl,?_⟩⟩
  ·unfold tell;rw [List.length_map];exact ho x (List.mem_of_getElem? hx)
  ·unfold zW
   rw[List.take_add_one,List.getElem?_map,hx]
   rfl
 ·rintro ds S2 ⟨rfl,rfl⟩
  rw[List.length_map,gE,List.length_map,List.take_of_length_le (by rw[zW,List.length_map];exact Nat.le_refl _)]
  exact⟨_,rfl,by unfold d8;rfl,⟨[],by simp⟩,_,by unfold res;rfl,h⟩
end
end K13
end
section
set_option maxRecDepth 100000
set_option maxHeartbeats 4000000
namespace K13
open PySem PySem.Spec PyProof.Rows L2 L3 MT
theorem ya(n:Nat):bZ 0 n=(List.range n).map nI:=by
 unfold bZ
 refine List.map_congr_left fun i _=>?_
 show D.int (0+(i:Int))=D.int (i:Int)
 rw[Int.zero_add]
noncomputable def IF(T:List Nat):D:= .tup (T.map nI)
mutual
theorem t6{n m:Nat}(h:n≤m):∀v:V3,jA n v=true→jA m v=true
 | .d _,_=>by unfold jA;rfl
 | .loc k,q=>by
   unfold jA at q ⊢
   exact decide_eq_true (Nat.lt_of_lt_of_le (of_decide_eq_true q) h)
 | .lst vs,q=>by unfold jA at q ⊢;exact gT h vs q
 | .tup vs,q=>by unfold jA at q ⊢;exact gT h vs q
theorem gT{n m:Nat}(h:n≤m):∀vs:List V3,fV n vs=true→fV m vs=true
 | [],_=>by unfold fV;rfl
 | v ::vs,q=>by
   unfold fV at q ⊢
   rw[Bool.and_eq_true] at q ⊢
   exact⟨t6 h v q.1,gT h vs q.2⟩
end
theorem lK{n m:Nat}(h:n≤m)(o:SO)(q:mE n o=true):mE m o=true:=by
 cases o with
 | ins k fs=>exact gT h _ q
 | _=>rfl
noncomputable def pt(ws:List M)(x:Str × List Nat)(p:Nat):Bool × Bool:=A9 ((tell ws x).map (· p))
noncomputable def nZ(ps:List Nat):List Int:=ps.map fun(n:Nat)=>(n:Int)
end K13
end
section
set_option maxRecDepth 100000
set_option maxHeartbeats 4000000
namespace K13
open PySem PySem.Spec PyProof.Rows L2 L3 MT
noncomputable abbrev zV:Str:=Str.ofString "abcdefghijklmnopqrstuvwxyz"
noncomputable abbrev kL:List Str:=[Str.ofString "in",Str.ofString "gate",Str.ofString "sure",Str.ofString "out",Str.ofString "not",Str.ofString "and",Str.ofString "or",Str.ofString "xor",Str.ofString "vote"]
noncomputable def cq(i:Nat):Str:=⟨#[97+i]⟩
theorem xc:zV.cps.toList=(List.range 26).map (97+·):=by decide+kernel
theorem Aa:zV.length=26:=by decide+kernel
theorem zr{i:Int}(h0:0≤i)(h:i < 26):cw (.str zV) (.int i)= .ok (.str (cq i.toNat)):=by
 have hz:sizeLine=16777216:=sizeLine_eq
 refine zN (by rw[Aa];omega) ?_
 rw[xc]
 rw[hW h0 (by simp;omega)]
 simp
theorem y_:∀i:Nat,i < 26→Txt.find zV (cq i)=(i:Int):=by decide+kernel
theorem eI(i:Nat):(cq i).length=1:=rfl
theorem jW(a b:Str):(a++b).length=a.length+b.length:=Str.length_append a b
theorem A3(p:Str)(i:Nat)(hp:p.length < 1000):cw (.str (p++cq i)) (.int (-1))= .ok (.str (cq i)):=by
 have hz:sizeLine=16777216:=sizeLine_eq
 refine zN (by rw[jW,eI];omega) ?_
 rw[mU]
 unfold l8 m8
 have hl:(p.cps.toList++(cq i).cps.toList).length=p.cps.toList.length+1:=by rw[List.length_append];rfl
 rw[if_neg (by omega),hl,if_pos (by omega)]
 show(p.cps.toList++(cq i).cps.toList)[((-1:Int)+((p.cps.toList.length+1:Nat):Int)).toNat]? =_
 rw[show((-1:Int)+((p.cps.toList.length+1:Nat):Int)).toNat=p.cps.toList.length by omega,List.getElem?_append_right (Nat.le_refl _),Nat.sub_self]
 rfl
theorem y6(p:Str)(i:Nat):Txt.slice (p++cq i) none (some (-1))=p:=by
 have h:=slice_closes_to_neg (x:=p++cq i) (j:= -1) (k:=p.length) (by omega) (by rw[jW,eI];omega) (by rw[jW,eI];omega)
 have e:=beq_iff_eq.mp h
 rw[e]
 refine AV ?_
 show((p++cq i).cps.toList.drop 0).take ((p.length:Int) - 0).toNat=_
 rw[mU,List.drop_zero,show((p.length:Int) - 0).toNat=p.cps.toList.length by simp [Str.length],List.take_left]
theorem AG{p:Str}{i j:Nat}(h:p++cq i=p++cq j):i=j:=by
 have h1:(p++cq i).cps.toList=(p++cq j).cps.toList:=by rw[h]
 rw[mU,mU] at h1
 have h2:[97+i]=[97+j]:=List.append_cancel_left h1
 have h3:97+i=97+j:=by simpa using h2
 omega
theorem xf(ss:List Str)(hs:ss.length≤16)(p:Str)(c:Nat):∃t,t < 26∧¬(p++cq ((c+t) % 26))∈ss++kL:=by
 refine Classical.byContradiction fun hn=>?_
 have all:∀x∈(List.range 26).map (fun t=>p++cq ((c+t) % 26)),x∈ss++kL:=fun x hx=>by
  obtain⟨t,ht,rfl⟩:=List.mem_map.mp hx
  rw[List.mem_range] at ht
  refine Classical.byContradiction fun h=>hn ⟨t,ht,h⟩
 have nd:((List.range 26).map (fun t=>p++cq ((c+t) % 26))).Nodup:=by
  refine List.pairwise_map.mpr (List.Pairwise.imp_of_mem ?_ List.nodup_range)
  intro a b ha hb hab h
  rw[List.mem_range] at ha hb
  have:=AG h
  exact hab (by omega)
 have:=L2.yX _ _ nd all
 rw[List.length_map,List.length_range,List.length_append] at this
 have hb:kL.length=9:=rfl
 omega
noncomputable def g7(k n:Nat)(many:V3)(kk nm j:Option V3):DE:=[some (.loc k),some many,some (.d (.str zV)),some (.d (.lst (kL.map .str))),some (.loc n),kk,nm,j]
theorem u6(x:Str)(ss:List Str):nc (.str x) (.lst (ss.map .str))= .ok (.bl (ss.contains x)):=by
 show((match strs? (ss.map D.str) with | some tt=>R.ok (tt.contains x) | none=> .no)).bind (fun b=>R.ok (D.bl b))=_
 rw[L2.strs_map];rfl
theorem Af{k n:Nat}{many:V3}{kk j:Option V3}{S:aJ}{ss:List Str}{x:Str}(e:S[n]? =some (.lst (ss.map .str))) :
 bT (qR (b2 nc (ai 6) (ai 4)) (b2 nc (ai 6) (ai 3))) (g7 k n many kk (some (.d (.str x))) j) S= .ok (decide (x∈ss++kL)) S:=by
 have h4:(bz S (g7 k n many kk (some (.d (.str x))) j))[4]? =some (.val (.lst (ss.map .str))):=by
  unfold bz g7
  show some (match res S (.loc n) with | some d=>Sl.val d | none=> .un)=_
  unfold res
  simp only[e]
 have h3:(bz S (g7 k n many kk (some (.d (.str x))) j))[3]? =some (.val (.lst (kL.map .str))):=rfl
 have h6:(bz S (g7 k n many kk (some (.d (.str x))) j))[6]? =some (.val (.str x)):=rfl
 unfold bT
 generalize bz S (g7 k n many kk (some (.d (.str x))) j)=δ at h3 h4 h6
 have e1:b2 nc (ai 6) (ai 4) δ= .ok (ss.contains x):=iB (a:= .str x) (b:= .lst (ss.map .str)) (by unfold ai;rw [h6]) (by unfold ai;rw [h4]) (u6 _ _)
 have e3:b2 nc (ai 6) (ai 3) δ= .ok (kL.contains x):=iB (a:= .str x) (b:= .lst (kL.map .str)) (by unfold ai;rw [h6]) (by unfold ai;rw [h3]) (u6 _ _)
 have:qR (b2 nc (ai 6) (ai 4)) (b2 nc (ai 6) (ai 3)) δ= .ok (decide (x∈ss++kL)):=by
  unfold qR
  rw[e1,R.aS,e3]
  by_cases h:x∈ss
  ·rw[if_pos (by simpa using h),decide_eq_true (List.mem_append_left _ h)]
  ·rw[if_neg (by simpa using h)]
   congr 1
   by_cases h2:x∈kL
   ·rw[decide_eq_true (List.mem_append_right _ h2)];simpa using h2
   ·rw[decide_eq_false (fun z=>(List.mem_append.mp z).elim h h2)];simpa using h2
 rw[this]
 rfl
theorem Ar{k n:Nat}{many:V3}{kk j:Option V3}{S:aJ}{p:Str}{c:Nat}(hp:p.length < 500)(hc:c < 26) :
 W3 (fM (g7 k n many kk (some (.d (.str (p++cq c)))) j) S) fun o S1=>o= .nx (g7 k n many kk (some (.d (.str (p++cq ((c+1) % 26))))) j)∧S1=S:=by
 have hz:sizeLine=16777216:=sizeLine_eq
 unfold fM
 refine br (by unfold g7;simp only[List.length_cons,List.length_nil];omega) (cQ (d:= .str (p++cq ((c+1) % 26))) ?_ ⟨rfl,rfl⟩)
 refine aG (a:= .str p) (b:= .str (cq ((c+1) % 26))) ?_ ?_ (uP (by rw[eI];omega))
 ·refine yp (d:= .str (p++cq c)) (lo:=none) (hi:=some (-1)) rfl rfl rfl ?_
  rw[C3 (by rw[jW,eI];omega),y6]
 ·refine aG (a:= .str zV) (b:= .int (((c:Int)+1) % 26)) rfl ?_ ?_
  ·refine aG (a:= .int ((c:Int)+1)) (b:= .int 26) (aG (a:= .int c) (b:= .int 1) ?_ rfl rfl) rfl (ql (by omega))
   refine Bj (x:=zV) (ds:=[.str (cq c)]) rfl (aR (aG (a:= .str (p++cq c)) (b:= .int (-1)) rfl rfl (A3 p c (by omega))) rfl) ?_
   show R.ok (D.int (Txt.find zV (cq c)))=_
   rw[y_ c hc]
  ·rw[zr (by omega) (by omega)]
   congr 3
theorem rH{k n:Nat}{many:V3}{kk j:Option V3}{S:aJ}{ss:List Str}{p:Str}(hp:p.length < 500)(e:S[n]? =some (.lst (ss.map .str))) :
 ∀(m ex c:Nat),c < 26→(∃t,t < m∧¬(p++cq ((c+t) % 26))∈ss++kL)→
 W3 (jV (bT (qR (b2 nc (ai 6) (ai 4)) (b2 nc (ai 6) (ai 3)))) fM (m+ex) (g7 k n many kk (some (.d (.str (p++cq c)))) j) S) fun o S1=>∃c',c' < 26∧o= .nx (g7 k n many kk (some (.d (.str (p++cq c')))) j)∧S1=S
 | 0,_,_,_,⟨t,ht,_⟩=>by omega
 | m+1,ex,c,hc,⟨t,ht,hf⟩=>by
   rw[show m+1+ex=(m+ex)+1 by omega]
   unfold jV
   refine W3.bind (W3.eq (Af e) ?_)
   by_cases hx:(p++cq c)∈ss++kL
   ·rw[decide_eq_true hx,if_pos rfl]
    refine W3.bind ((Ar hp hc).mono fun o S1 ⟨e1,e2'⟩=>?_)
    subst e1 e2'
    have ht0:t≠0:=fun z=>by subst z;rw [Nat.add_zero,Nat.mod_eq_of_lt hc] at hf;exact hf hx
    refine rH hp e m ex ((c+1) % 26) (by omega) ⟨t - 1,by omega,?_⟩
    rw[show((c+1) % 26+(t - 1)) % 26=(c+t) % 26 by omega]
    exact hf
   ·rw[decide_eq_false hx,if_neg (by decide)]
    exact W3.ok ⟨c,hc,rfl,rfl⟩
end K13
end
section
set_option maxRecDepth 100000
set_option maxHeartbeats 4000000
namespace K13
open PySem PySem.Spec PyProof.Rows L2 L3 MT
structure qO (k g:Nat) (L:List D) (S S1:aJ):Prop where
 p:mv k S1
 len:S1.length=S.length
 oth:∀j,j≠k→j≠g→S1[j]? =S[j]?
 gl:S1[g]? =some (.lst L)
theorem qO.then{k g:Nat}{L:List D}{S S1 S2:aJ}(a:qO k g L S S1)(h:g≠k)(b:Ev k S1 S2):qO k g L S S2:=⟨b.p,b.len.trans a.len,fun j h1 h2=>(b.oth j h1).trans (a.oth j h1 h2),(b.oth g h).trans a.gl⟩
theorem qO.put{k g:Nat}{L L':List D}{S S1:aJ}(a:qO k g L S S1)(h:g≠k):qO k g L' S (S1.set g (.lst L')):=by
 obtain⟨hL,x,c,e⟩:=a.p
 exact⟨⟨hL.set _ (kg _),x,c,by rw[List.getElem?_set_ne h];exact e⟩,by rw[List.length_set];exact a.len,fun j h1 h2=>by rw[List.getElem?_set_ne (Ne.symm h2)];exact a.oth j h1 h2,gL a.gl⟩
theorem mv.push{k:Nat}{S:aJ}(p:mv k S)(L:List D):mv k (S++[.lst L]):=by
 have h:=p.lt
 obtain⟨hL,a,c,e⟩:=p
 exact⟨hL.push (kg _),a,c,by rw[List.getElem?_append_left h];exact e⟩
theorem qO.qL{k:Nat}{S:aJ}(p:mv k S)(L:List D):qO k S.length L (S++[.lst L]) (S++[.lst L]):=⟨p.push L,rfl,fun _ _ _=>rfl,bh _ _⟩
noncomputable def oz:List Str:=[Str.ofString "",Str.ofString "",Str.ofString "zz",Str.ofString "qrst"]++kL
theorem yj(r:Int)(h0:0≤r)(h:r < 13):∃s:Str,s.length≤4∧cw (.lst (oz.map .str)) (.int r)= .ok (.str s):=by
 have hl:oz.length=13:=rfl
 have hlen:∀s∈oz,s.length≤4:=by decide+kernel
 refine⟨oz[r.toNat]'(by omega),hlen _ (List.getElem_mem _),iZ ?_⟩
 rw[hW h0 (by rw[List.length_map];omega)]
 simp
theorem wk{k n:Nat}{many:V3}{kk nm j:Option V3}{S S1:aJ}{ss:List Str}(hn:n≠k)(hl:ss.length≤15)(E:qO k n (ss.map .str) S S1) :
 W3 (h_ (g7 k n many kk nm j) S1) fun o S2=>∃δ2,o= .nx δ2∧(∃a b,δ2=g7 k n many kk a b)∧∃x:Str,qO k n ((ss++[x]).map .str) S S2:=by
 have hz:sizeLine=16777216:=sizeLine_eq
 unfold h_
 refine aQ (br (by unfold g7;simp only[List.length_cons,List.length_nil];omega) (yu (cQ (d:= .lst (oz.map .str)) ?_ (draw (k:=k) rfl E.p rfl (by omega) (by omega) fun r S2 h1 h2 v2=>?_))))
 ·exact aG (a:= .lst ([Str.ofString "",Str.ofString "",Str.ofString "zz",Str.ofString "qrst"].map .str)) (b:= .lst (kL.map .str)) (gH (qf rfl (by simp;omega))) rfl (vQ (by simp;omega))
 obtain⟨s,hs,es⟩:=yj r h1 h2
 refine⟨_,_,_,rfl,rfl,es,_,rfl,?_⟩
 have E2:=E.then hn v2
 show W3 (bo _ _ (g7 k n many kk (some (.d (.str s))) j) S2) _
 refine aQ (gz (lQ (BJ (k:=k) rfl E2.p (by omega) (by omega) fun r2 S3 h3 h4 v3=>⟨r2,rfl,by omega,?_⟩)))
 have E3:=E2.then hn v3
 refine(cc (fun i δ S4=>∃(x:Str) (a:Option V3),δ=g7 k n many kk (some (.d (.str x))) a∧x.length≤4+i∧(i=0∨∃p c,c < 26∧x=p++cq c)∧qO k n (ss.map .str) S S4)
  ⟨s,j,rfl,by omega, .inl rfl,E3⟩ ?_).mono fun o S4 ⟨δ4,e4,x,a,hδ,hx,hx2,E4⟩=>⟨δ4,e4,?_⟩
 ·rintro i v δ S4 hv ⟨x,a,rfl,hx,hx2,E4⟩
  refine⟨g7 k n many kk (some (.d (.str x))) (some v),rfl,?_⟩
  have hi:i < 10:=by
   have:=(List.getElem?_eq_some_iff.mp hv).1
   rw[List.length_map,bZ,List.length_map,List.length_range] at this
   omega
  unfold kf
  refine br (by unfold g7;simp only[List.length_cons,List.length_nil];omega) (xv (cQ (d:= .str x) rfl (yu (cQ (d:= .str zV) rfl (draw (k:=k) rfl E4.p rfl (by omega) (by omega) fun r5 S5 h5 h6 v5=>?_)))))
  refine⟨_,_,_,rfl,rfl,zr h5 h6,_,_, .str (x++cq r5.toNat),rfl,rfl,uP (by rw[eI];omega),_,rfl,x++cq r5.toNat,some v,rfl,by rw[jW,eI];omega, .inr ⟨x,r5.toNat,by omega,rfl⟩,E4.then hn v5⟩
 rw[List.length_map,bZ,List.length_map,List.length_range] at hx hx2
 subst hδ
 obtain⟨p,c,hc,rfl⟩:∃p c,c < 26∧x=p++cq c:=hx2.resolve_left (by omega)
 have hp:p.length < 500:=by rw[jW,eI] at hx;omega
 refine aQ ?_
 unfold tF
 refine(rH (n:=n) (ss:=ss) hp E4.gl 26 974 c hc (xf ss (by omega) p c)).mono fun o S5 ⟨c',hc',e5,e6⟩=>⟨_,e5,?_⟩
 subst e6
 refine ip (k:=n) rfl ⟨_,E4.gl⟩ (cQ (d:= .str (p++cq c')) rfl ⟨_,_,rfl,E4.gl,by rw[List.length_map];omega,_,rfl,⟨_,_,rfl⟩,p++cq c',?_⟩)
 rw[List.map_append]
 exact E4.put hn
theorem zK{S:aJ}{k:Nat}{m:Nat}(p:mv k S)(hm:m≤15){Q:V3→aJ→Prop}(h:∀(ss:List Str) S1,ss.length=m→Ev k S S1→Q (.d (.lst (ss.map .str))) S1):W3 (eX [.loc k, .d (.int m)] S) Q:=by
 have hz:sizeLine=16777216:=sizeLine_eq
 have hk:=p.lt
 unfold eX
 refine mZ (qe rfl ?_)
 simp only[bx,gP,List.map_cons,List.map_nil,List.length_cons,List.length_nil,List.replicate,List.cons_append,List.nil_append,Nat.reduceAdd,Nat.reduceSub]
 unfold jn
 refine aQ (br (by simp only[List.length_cons,List.length_nil,List.length_set];omega) (cQ (d:= .str zV) rfl ⟨_,rfl,?_⟩))
 simp only[List.set_cons_succ,List.set_cons_zero]
 refine aQ (br (by simp only[List.length_cons,List.length_nil,List.length_set];omega) (cQ (d:= .lst (kL.map .str)) (gH (qf rfl (by simp;omega))) ⟨_,rfl,?_⟩))
 simp only[List.set_cons_succ,List.set_cons_zero]
 refine aQ (br (by simp only[List.length_cons,List.length_nil,List.length_set];omega) (ie (ds:=[]) rfl ⟨_,rfl,?_⟩))
 simp only[List.set_cons_succ,List.set_cons_zero]
 have g0:=qO.qL p []
 have hgk:S.length≠k:=by omega
 refine aQ (gz (kN (f_ (n:=m) rfl (by omega)) ?_))
 refine(cc (fun i δ S4=>(∃a b c,δ=g7 k S.length (.d (.int m)) a b c)∧∃ss:List Str,ss.length=i∧qO k S.length (ss.map .str) (S++[SO.lst []]) S4) ⟨⟨_,_,_,rfl⟩,[],rfl,g0⟩ ?_).mono fun o S4 ⟨δ4,e4,⟨a,b,c,hδ⟩,ss,hl,g4⟩=>⟨δ4,e4,?_⟩
 ·rintro i v δ S4 hv ⟨⟨a,b,c,rfl⟩,ss,hl,g4⟩
  have hi:i < 15:=by
   have:=(List.getElem?_eq_some_iff.mp hv).1
   rw[List.length_map,bZ,List.length_map,List.length_range] at this
   omega
  refine⟨g7 k S.length (.d (.int m)) (some v) b c,rfl,?_⟩
  exact(wk hgk (by omega) g4).mono fun o S5 ⟨δ5,e5,⟨a5,b5,h5⟩,x,g5⟩=>⟨δ5,e5,⟨some v,a5,b5,h5⟩,ss++[x],by simp [hl],g5⟩
 rw[List.length_map,bZ,List.length_map,List.length_range] at hl
 subst hδ
 unfold g7
 refine eG (w_var rfl ⟨_,rfl,g4.p.1,?_, .lst (ss.map .str),?_,?_⟩)
 ·unfold d8;exact decide_eq_true (Nat.le_refl _)
 ·unfold res;simp only[g4.gl]
 ·refine h ss _ hl ⟨⟨g4.p.1.take _,?_⟩,?_,?_⟩
  ·obtain⟨_,a,c,e⟩:=g4.p
   exact⟨a,c,by rw[List.getElem?_take_of_lt hk];exact e⟩
  ·have:=g4.len
   rw[List.length_append,List.length_singleton] at this
   rw[List.length_take];omega
  ·intro j hj
   by_cases hjl:j < S.length
   ·rw[List.getElem?_take_of_lt hjl,g4.oth _ hj (by omega),List.getElem?_append_left hjl]
   ·have:=g4.len
    rw[List.length_append,List.length_singleton] at this
    rw[List.getElem?_eq_none (by rw[List.length_take];omega),List.getElem?_eq_none (by omega)]
end K13
end
section
set_option maxRecDepth 100000
set_option maxHeartbeats 4000000
namespace K13
open PySem PySem.Spec PyProof.Rows L2 L3 MT
theorem lE{n i:Nat}{d:D}(h:(bZ 0 n)[i]? =some d):i < n∧d= .int i:=by
 rw[bZ,List.getElem?_map] at h
 cases q:(List.range n)[i]? with
 | none=>rw [q] at h;cases h
 | some j=>
   rw[q] at h;cases h
   obtain⟨q1,q2⟩:=List.getElem?_eq_some_iff.mp q
   rw[List.getElem_range] at q2
   rw[List.length_range] at q1
   subst q2
   exact⟨q1,by simp⟩
theorem qH{ds:List D}{i:Nat}{x:D}(h:ds[i]? =some x):l8 ds (i:Int)=some x:=by
 obtain⟨h1,h2⟩:=List.getElem?_eq_some_iff.mp h
 rw[hW (by omega) (by rw[Int.toNat_natCast];exact h1)]
 simp [h2]
section
variable {gs:List Gt}
theorem FP{i:Nat}{g:Gt}(h:gs[i]? =some g):cw (.lst (gs.map gW)) (.int i)= .ok (gW g):=by
 obtain⟨h1,h2⟩:=List.getElem?_eq_some_iff.mp h
 refine iZ ?_
 rw[hW (by omega) (by rw[List.length_map,Int.toNat_natCast];exact h1)]
 simp [h2]
end
section
variable {S:aJ} {δ:DE} {k q i:Nat} {ks:List Int}
theorem va{Q:V3→aJ→Prop}{f:FD}{m:Int}(hv:δ[i]? =some (some (.loc k)))(p:mv k S)(hf:f (bz S δ)= .ok (.int m))(hm:0 < m)(hm2:m < 1000000)
 (h:∀(r:Int) S1,0≤r→r < m→Ev k S S1→Q (.d (.int r)) S1):W3 (bt az (ax (bw i) (ax (xT f) bG)) δ S) Q:=
 cG (aD (w_var hv (aD (qQ hf rfl (cn (qt p hm (pM hm hm2) h))))))
theorem gK{ds:List D}(e:S[q]? =some (.lst ds)):res S (.loc q)=some (.lst ds):=by unfold res;rw [e]
theorem ib(e:S[q]? =some (.lst (ks.map .int)))(hi:δ[i]? =some (some (.loc q))):aK cK (au (ai i) aI) (bz S δ)= .ok (.int ks.length):=by
 refine aO (ds:=[.lst (ks.map .int)]) (aR ?_ rfl) (by rw[kr,List.length_map])
 unfold ai bz
 rw[List.getElem?_map,hi]
 show(match some (match res S (.loc q) with | some d=>Sl.val d | none=> .un) with | some (.val d)=>R.ok d | _=> .no)=_
 rw[gK e]
theorem xA{w:Nat}(h:w < ks.length):cw (.lst (ks.map .int)) (nI w)= .ok (.int ks[w]):=iZ (qH (by rw[List.getElem?_map,List.getElem?_eq_getElem h];rfl))
theorem u7{own:List Str}{kp:List Nat}{it:FA}{w:Nat}{Q:V3→aJ→Prop}(e:S[q]? =some (.lst (ks.map .int)))(hw:w < ks.length)(hn:ks.length < 10000)(hkp:fk own kp δ=[none,some (.loc q),some (.d (nI w))])
 (hit:W3 (it δ S) fun vs S1=>vs=(bZ 0 ks.length).map .d∧S1=S) (h:∀l:List Nat,0 < l.length→l.length < 10000→(∀x∈l,x < ks.length∧ks.getD x 0=ks.getD w 0)→Q (.d (.lst (l.map nI))) S) :
 W3 (f9 it (ic 0) (bT (b2 ik (e2 cw (ai 1) (ai 0)) (e2 cw (ai 1) (ai 2)))) (xP (ai 0)) own kp δ S) Q:=by
 have hz:sizeLine=16777216:=sizeLine_eq
 refine gM (fun i ds S2=>S2=S∧∃l:List Nat,ds=l.map nI∧(∀x∈l,x < ks.length∧ks.getD x 0=ks.getD w 0)∧l.length≤i∧(w < i→0 < l.length)) (hit.mono fun vs S1 ⟨e1,e2'⟩=>?_)
 subst e1 e2'
 have hlen:((bZ 0 ks.length).map V3.d).length=ks.length:=by simp [bZ]
 rw[hlen]
 refine⟨by omega,⟨rfl,[],rfl,by simp,by simp,by omega⟩,?_,?_⟩
 ·rintro i v ds S2 hv ⟨rfl,l,rfl,hl,hli,hw'⟩
  rw[hkp]
  rw[List.getElem?_map] at hv
  cases qq:(bZ 0 ks.length)[i]? with
  | none=>rw [qq] at hv;cases hv
  | some d0=>
    rw[qq] at hv
    obtain⟨hi,rfl⟩:=lE qq
    cases hv
    refine⟨[some (.d (.int i)),some (.loc q),some (.d (nI w))],rfl,Cu (b:=decide (ks[i]=ks[w])) ?_ ?_⟩
    ·have hT:bz S2 [some (.d (.int i)),some (.loc q),some (.d (nI w))]=[.val (nI i), .val (.lst (ks.map .int)), .val (nI w)]:=by
      simp only[bz,List.map_cons,List.map_nil,gK e]
      rfl
     rw[hT]
     exact iB (a:= .int ks[i]) (b:= .int ks[w]) (aG (a:= .lst (ks.map .int)) (b:=nI i) rfl rfl (xA hi)) (aG (a:= .lst (ks.map .int)) (b:=nI w) rfl rfl (xA hw)) rfl
    ·by_cases hc:ks[i]=ks[w]
     ·rw[decide_eq_true hc,if_pos rfl]
      refine cQ rfl ⟨nI i,rfl,rfl,l++[i],by simp,?_,by simp;omega,by simp⟩
      intro x hx
      rcases List.mem_append.mp hx with z | z
      ·exact hl x z
      ·rw[List.mem_singleton] at z;subst z;exact⟨hi,by rw[List.getD_eq_getElem?_getD,List.getD_eq_getElem?_getD,List.getElem?_eq_getElem hi,List.getElem?_eq_getElem hw,hc]⟩
     ·rw[decide_eq_false hc,if_neg (by decide)]
      refine⟨rfl,l,rfl,hl,by omega,fun hwi=>hw' ?_⟩
      have:w≠i:=fun z=>hc (by subst z;rfl)
      omega
 ·rintro ds S2 ⟨rfl,l,rfl,hl,hli,hw'⟩
  exact h l (hw' hw) (by omega) hl
theorem vH{f:FX}{fm:FD}{l:List Nat}{Q:V3→aJ→Prop}(hf:W3 (f δ S) fun v S1=>v= .d (.lst (l.map nI))∧S1=S)(hv:δ[i]? =some (some (.loc k)))(p:mv k S)(hm:fm (down δ)= .ok (.int l.length))(hl:0 < l.length)(hl2:l.length < 10000)
 (h:∀x S1,x∈l→Ev k S S1→Q (.d (nI x)) S1):W3 (xD f (bt az (ax (bw i) (ax (xP fm) bG))) δ S) Q:=by
 refine yu (hf.mono fun v S1 ⟨e1,e2'⟩=>?_)
 subst e1 e2'
 refine draw hv p hm (by omega) (by omega) fun r S2 h1 h2 v2=>⟨_,_,nI (l[r.toNat]'(by omega)),rfl,rfl,iZ ?_,h _ S2 (List.getElem_mem _) v2⟩
 rw[hW h1 (by rw[List.length_map];omega)]
 simp
end
noncomputable def BU:List D:=[.str (Str.ofString "not"), .str (Str.ofString "and"), .str (Str.ofString "or"), .str (Str.ofString "xor"), .str (Str.ofString "vote"), .str (Str.ofString "xor"), .str (Str.ofString "and")]
noncomputable def GF:List (Key × V):=[((Sum.inr (Str.ofString "not"):Key),V.int 1),((Sum.inr (Str.ofString "vote"):Key),V.int 3)]
theorem AJ(r:Nat)(h:r < 7):∃kd,kd≤4∧cw (.lst BU) (.int r)= .ok (.str (kS kd))∧(match jG (hV [] GF) (Sum.inr (kS kd)) with | some (.int i)=>R.ok (D.int i) | none=> .ok (.int 2) | _=> .no)= .ok (.int (ar kd)):=by
 match r,h with
 | 0,_=>exact⟨0,by omega,rfl,rfl⟩
 | 1,_=>exact⟨1,by omega,rfl,rfl⟩
 | 2,_=>exact⟨2,by omega,rfl,rfl⟩
 | 3,_=>exact⟨3,by omega,rfl,rfl⟩
 | 4,_=>exact⟨4,by omega,rfl,rfl⟩
 | 5,_=>exact⟨3,by omega,rfl,rfl⟩
 | 6,_=>exact⟨1,by omega,rfl,rfl⟩
theorem uo{S:aJ}{δ:DE}{i o:Nat}{ws:List Nat}(hi:δ[i]? =some (some (.loc o)))(e:S[o]? =some (.lst (ws.map nI))):aK ee (au (ai i) aI) (bz S δ)= .ok (.tup (ws.map nI)):=by
 refine aO (ds:=[.lst (ws.map nI)]) (aR ?_ rfl) rfl
 unfold ai bz
 rw[List.getElem?_map,hi]
 show(match some (match res S (.loc o) with | some d=>Sl.val d | none=> .un) with | some (.val d)=>R.ok d | _=> .no)=_
 rw[gK e]
theorem kY(ws:List Nat):jm (.tup (ws.map nI))=true:=by
 unfold jm
 induction ws with
 | nil=>unfold gZ;rfl
 | cons w ws ih=>rw [List.map_cons];unfold gZ;rw [ih];rfl
noncomputable def Eu{S:aJ}{k:Nat}{d:D}{Q:V3→aJ→Prop}(h:∀S1,Ev k S S1→Q (.d d) S1){S2:aJ}{L:List D}{g:Nat}(E:qO k g L (S++[SO.lst []]) S2)(hg:g=S.length)(hk:k < S.length):Flat S2∧d8 S.length (.d d)=true∧∃d',res S2 (.d d)=some d'∧Q (.d d') (S2.take S.length):=by
 subst hg
 refine⟨E.p.1,by unfold d8;rfl,d,by unfold res;rfl,h _ ⟨⟨E.p.1.take _,?_⟩,?_,?_⟩⟩
 ·obtain⟨_,a,c,e⟩:=E.p
  exact⟨a,c,by rw[List.getElem?_take_of_lt hk];exact e⟩
 ·have:=E.len
  rw[List.length_append,List.length_singleton] at this
  rw[List.length_take];omega
 ·intro j hj
  by_cases hjl:j < S.length
  ·rw[List.getElem?_take_of_lt hjl,E.oth _ hj (by omega),List.getElem?_append_left hjl]
  ·have:=E.len
   rw[List.length_append,List.length_singleton] at this
   rw[List.getElem?_eq_none (by rw[List.length_take];omega),List.getElem?_eq_none (by omega)]
noncomputable def F5(k q o:Nat)(ms kd mn:D)(a6 a7 a8:Option V3):DE:=[some (.loc k),some (.loc q),some (.d ms),some (.d kd),some (.d mn),some (.loc o),a6,a7,a8]
theorem wD{S:aJ}{k q:Nat}{ks:List Int}{ms:Int}(p:mv k S)(hq:q≠k)(e:S[q]? =some (.lst (ks.map .int)))(h0:0 < ks.length)(hn:ks.length < 10000){Q:V3→aJ→Prop}(h:∀g S1,kz ks.length g→Ev k S S1→Q (.d (gW g)) S1) :
 W3 (eE [.loc k, .loc q, .d (.int ms)] S) Q:=by
 have hz:sizeLine=16777216:=sizeLine_eq
 have hk:=p.lt
 have hql:q < S.length:=(List.getElem?_eq_some_iff.mp e).1
 unfold eE
 refine mZ (qe rfl ?_)
 simp only[bx,iL,List.map_cons,List.map_nil,List.length_cons,List.length_nil,List.replicate,List.cons_append,List.nil_append,Nat.reduceAdd,Nat.reduceSub]
 unfold kH
 refine aQ <| br (by simp only[List.length_cons,List.length_nil,List.length_set];omega) <| yu <| cQ (d:= .lst BU) rfl <| draw (k:=k) rfl p rfl (by omega) (by omega) fun r S1 h1 h2 v1=>?_
 obtain⟨kd,hkd,e1,e2'⟩:=AJ r.toNat (by omega)
 rw[Int.toNat_of_nonneg h1] at e1
 refine⟨_,_,_,rfl,rfl,e1,_,rfl,?_⟩
 simp only[List.set_cons_succ,List.set_cons_zero]
 refine aQ <| br (by simp only[List.length_cons,List.length_nil,List.length_set];omega) <| cQ (d:= .int (ar kd)) e2' ⟨_,rfl,?_⟩
 simp only[List.set_cons_succ,List.set_cons_zero]
 refine aQ <| br (by simp only[List.length_cons,List.length_nil,List.length_set];omega) <| ie (ds:=[]) rfl ⟨_,rfl,?_⟩
 simp only[List.set_cons_succ,List.set_cons_zero]
 have har:=yw kd
 have hl1:=v1.len
 have E1:=qO.qL v1.p []
 have hok:S1.length≠k:=by omega
 have eq1:S1[q]? =some (.lst (ks.map .int)):=by rw[v1.oth q hq];exact e
 refine aQ <| gz <| kN (f_ (n:=ar kd) rfl (by omega)) ?_
 refine(cc (fun i δ S2=>(∃a b c,δ=F5 k q S1.length (.int ms) (.str (kS kd)) (.int (ar kd)) a b c)∧∃ws:List Nat,ws.length=i∧(∀w∈ws,w < ks.length)∧qO k S1.length (ws.map nI) (S1++[SO.lst []]) S2)
  ⟨⟨_,_,_,rfl⟩,[],rfl,by simp,E1⟩ ?_).mono fun o S2 ⟨δ2,e3,⟨a,b,c,hδ⟩,ws,hwl,hws,E2⟩=>⟨δ2,e3,?_⟩
 ·rintro i v δ S2 hv ⟨⟨a,b,c,rfl⟩,ws,hwl,hws,E2⟩
  have hi:i < 3:=by
   have:=(List.getElem?_eq_some_iff.mp hv).1
   rw[List.length_map,bZ,List.length_map,List.length_range] at this
   omega
  refine⟨F5 k q S1.length (.int ms) (.str (kS kd)) (.int (ar kd)) (some v) b c,rfl,?_⟩
  unfold k9 F5
  refine aQ <| br (by simp only[List.length_cons,List.length_nil,List.length_set];omega) <| draw (k:=k) rfl E2.p rfl (by omega) (by omega) fun r3 S3 h3 h4 v3=>⟨_,rfl,?_⟩
  simp only[List.set_cons_succ,List.set_cons_zero]
  have E3:=E2.then hok v3
  have eq3:S3[q]? =some (.lst (ks.map .int)):=by rw[E3.oth q hq (by omega),List.getElem?_append_left (by omega)];exact eq1
  refine aQ <| br (by simp only[List.length_cons,List.length_nil,List.length_set];omega) <| va (k:=k) rfl E3.p (ib eq3 rfl) (by omega) (by omega) fun r4 S4 h5 h6 v4=>⟨_,rfl,?_⟩
  simp only[List.set_cons_succ,List.set_cons_zero]
  have E4:=E3.then hok v4
  have eq4:S4[q]? =some (.lst (ks.map .int)):=by rw[E4.oth q hq (by omega),List.getElem?_append_left (by omega)];exact eq1
  refine aQ ?_
  have kc:W3 (x6 (bP (b2 ik (ai 7) (eC (.int 1)))) (cb 8 (xT (e2 iO (e2 iO (aK cK (au (ai 1) aI)) (eC (.int 1))) (e2 gG (ai 8) (aK sd (au (aK cK (au (ai 1) aI)) (au (eC (.int 4)) aI))))))) oQ
   [some (.loc k),some (.loc q),some (.d (.int ms)),some (.d (.str (kS kd))),some (.d (.int (ar kd))),some (.loc S1.length),some v,some (.d (.int r3)),some (.d (.int r4))] S4)
   fun o S5=>S5=S4∧∃w:Nat,w < ks.length∧o= .nx [some (.loc k),some (.loc q),some (.d (.int ms)),some (.d (.str (kS kd))),some (.d (.int (ar kd))),some (.loc S1.length),some v,some (.d (.int r3)),some (.d (nI w))]:=by
   refine s_ (CL (b:=decide (r3=1)) rfl ?_)
   by_cases hr:r3=1
   ·rw[decide_eq_true hr,if_pos rfl]
    have hmn:∃mn:Int,0 < mn∧mn≤ks.length∧sd [.int ks.length, .int 4]= .ok (.int mn):=⟨if(4:Int) < ks.length then 4 else ks.length,by split <;> omega,by split <;> omega,rfl⟩
    obtain⟨mn,m1,m2,m3⟩:=hmn
    have b1:0≤r4 % mn:=Int.emod_nonneg _ (by omega)
    have b2':r4 % mn < mn:=Int.emod_lt_of_pos _ m1
    refine br (by simp only[List.length_cons,List.length_nil,List.length_set];omega) (qQ (d:=nI ((ks.length:Int) - 1 - r4 % mn).toNat) ?_ rfl ⟨rfl,((ks.length:Int) - 1 - r4 % mn).toNat,by omega,rfl⟩)
    refine aG (a:= .int ((ks.length:Int) - 1)) (b:= .int (r4 % mn)) (aG (a:= .int ks.length) (b:= .int 1) (ib eq4 rfl) rfl rfl) (aG (a:= .int r4) (b:= .int mn) rfl (aO (ds:=[.int ks.length, .int 4]) (aR (ib eq4 rfl) rfl) m3) (ql m1)) ?_
    show R.ok (D.int ((ks.length:Int) - 1 - r4 % mn))=R.ok (D.int ((((ks.length:Int) - 1 - r4 % mn).toNat:Nat):Int))
    rw[Int.toNat_of_nonneg (by omega)]
   ·rw[decide_eq_false hr,if_neg (by decide)]
    refine og ⟨rfl,r4.toNat,by omega,?_⟩
    unfold nI
    rw[Int.toNat_of_nonneg h5]
  refine kc.mono fun o S5 ⟨e5,w,hw,eo⟩=>⟨_,eo,?_⟩
  subst e5
  refine ip (k:=S1.length) rfl ⟨_,E4.gl⟩ (cQ (d:=nI w) rfl ⟨_,_,rfl,E4.gl,by rw[List.length_map];omega,_,rfl,⟨_,_,_,rfl⟩,ws++[w],by simp [hwl],?_,?_⟩)
  ·intro x hx
   rcases List.mem_append.mp hx with z | z
   ·exact hws x z
   ·rw[List.mem_singleton] at z;subst z;exact hw
  ·rw[List.map_append]
   exact E4.put hok
 rw[List.length_map,bZ,List.length_map,List.length_range] at hwl
 subst hδ
 unfold F5
 refine eG <| zD <| aD <| cQ (d:= .str (kS kd)) rfl <| aD <| qQ (d:= .tup (ws.map nI)) (uo rfl E2.gl) (kY ws) <| aD <| xv <| draw (k:=k) rfl E2.p rfl (by omega) (by omega) fun r6 S6 h7 h8 v6=>cQ (d:= .int ms) rfl ⟨_,_, .bl (decide (r6 < ms)),rfl,rfl,rfl,cn ⟨by simp;omega,_,rfl,?_⟩⟩
 have E6:=E2.then hok v6
 show Flat S6∧d8 S.length (.d (gW (kd,ws,decide (r6 < ms))))=true∧∃d',res S6 (.d (gW (kd,ws,decide (r6 < ms))))=some d'∧_
 have hl6:S6.length=S.length+1:=by rw[E6.len];simp [hl1]
 refine⟨E6.p.1,by unfold d8;rfl,_,by unfold res;rfl,h _ _ ⟨hkd,hwl,hws⟩ ⟨⟨E6.p.1.take _,?_⟩,by rw[List.length_take];omega,fun j hj=>?_⟩⟩
 ·obtain⟨_,a,c,e⟩:=E6.p
  exact⟨a,c,by rw[List.getElem?_take_of_lt hk];exact e⟩
 ·by_cases hjl:j < S.length
  ·rw[List.getElem?_take_of_lt hjl,E6.oth _ hj (by omega),List.getElem?_append_left (by omega)]
   exact v1.oth j hj
  ·rw[List.getElem?_eq_none (by rw[List.length_take];omega),List.getElem?_eq_none (by omega)]
end K13
end
section
set_option maxRecDepth 100000
set_option maxHeartbeats 4000000
namespace K13
open PySem PySem.Spec PyProof.Rows L2 L3 MT
noncomputable def bE(k q o:Nat)(g:D)(a4 a5:Option V3):DE:=[some (.loc k),some (.d g),some (.loc q),some (.loc o),a4,a5]
theorem uC{S:aJ}{k q:Nat}{ks:List Int}{g:Gt}(p:mv k S)(hq:q≠k)(e:S[q]? =some (.lst (ks.map .int)))(hg:kz ks.length g)(hn:ks.length < 10000){Q:V3→aJ→Prop}(h:∀g' S1,kz ks.length g'→g'.1=g.1→g'.2.1.map (ks.getD · 0)=g.2.1.map (ks.getD · 0)→Ev k S S1→Q (.d (gW g')) S1) :
 W3 (eY [.loc k, .d (gW g), .loc q] S) Q:=by
 have hz:sizeLine=16777216:=sizeLine_eq
 have hk:=p.lt
 have har:=yw g.1
 have hql:q < S.length:=(List.getElem?_eq_some_iff.mp e).1
 unfold eY
 refine mZ (qe rfl ?_)
 simp only[bx,fQ,List.map_cons,List.map_nil,List.length_cons,List.length_nil,List.replicate,List.cons_append,List.nil_append,Nat.reduceAdd,Nat.reduceSub]
 unfold ju
 refine aQ <| br (by simp only[List.length_cons,List.length_nil,List.length_set];omega) <| ie (ds:=[]) rfl ⟨_,rfl,?_⟩
 simp only[List.set_cons_succ,List.set_cons_zero]
 have E1:=qO.qL p []
 have hok:S.length≠k:=by omega
 refine aQ <| gz <| kN (ds:=g.2.1.map nI) rfl ?_
 refine(cc (fun i δ S2=>(∃a b,δ=bE k q S.length (gW g) a b)∧∃ws:List Nat,ws.length=i∧(∀w∈ws,w < ks.length)∧ws.map (ks.getD · 0)=(g.2.1.take i).map (ks.getD · 0)∧qO k S.length (ws.map nI) (S++[SO.lst []]) S2)
  ⟨⟨_,_,rfl⟩,[],rfl,by simp,by simp,E1⟩ ?_).mono fun o S2 ⟨δ2,e3,⟨a,b,hδ⟩,ws,hwl,hws,hwk,E2⟩=>⟨δ2,e3,?_⟩
 ·rintro i v δ S2 hv ⟨⟨a,b,rfl⟩,ws,hwl,hws,hwk,E2⟩
  have hi:i < 3:=by
   have:=(List.getElem?_eq_some_iff.mp hv).1
   rw[List.length_map,List.length_map,hg.2.1] at this
   omega
  obtain⟨w,hwi,rfl⟩:=NT.kJ hv
  have hwn:=hg.2.2 w (List.mem_of_getElem? hwi)
  have eq2:S2[q]? =some (.lst (ks.map .int)):=by rw[E2.oth q hq (by omega),List.getElem?_append_left hql];exact e
  refine⟨bE k q S.length (gW g) (some (.d (nI w))) b,rfl,?_⟩
  unfold kj bE
  refine aQ <| br (by simp only[List.length_cons,List.length_nil,List.length_set];omega) <| u7 (q:=q) eq2 hwn hn rfl (lQ (qQ (d:= .int ks.length) (ib eq2 rfl) rfl ⟨ks.length,rfl,by omega,rfl,rfl⟩)) fun l hl0 hl1 hl2=>⟨_,rfl,?_⟩
  simp only[List.set_cons_succ,List.set_cons_zero]
  refine ip (k:=S.length) rfl ⟨_,E2.gl⟩ (vH (k:=k) (l:=l) (cQ rfl ⟨rfl,rfl⟩) rfl E2.p (aO (ds:=[.lst (l.map nI)]) rfl (by rw[kr,List.length_map])) hl0 hl1 fun x S3 hx v3=>?_)
  have E3:=E2.then hok v3
  refine⟨nI x,_,rfl,E3.gl,by rw[List.length_map];omega,_,rfl,⟨_,_,rfl⟩,ws++[x],by simp [hwl],?_,?_,?_⟩
  ·intro y hy
   rcases List.mem_append.mp hy with z | z
   ·exact hws y z
   ·rw[List.mem_singleton] at z;subst z;exact(hl2 _ hx).1
  ·rw[List.take_add_one,hwi,List.map_append,List.map_append,hwk]
   show _++[ks.getD x 0]=_++[ks.getD w 0]
   rw[(hl2 _ hx).2]
  ·rw[List.map_append]
   exact E3.put hok
 rw[List.length_map,List.length_map] at hwl hwk
 rw[List.take_length] at hwk
 subst hδ
 unfold bE
 refine eG <| zD <| aD <| cQ (d:= .str (kS g.1)) rfl <| aD <| qQ (d:= .tup (ws.map nI)) (uo rfl E2.gl) (kY ws) <| aD <| xv <| draw (k:=k) rfl E2.p rfl (by omega) (by omega) fun r6 S6 h7 h8 v6=>cQ (d:= .int 0) rfl ⟨_,_, .bl (decide (r6=0)),rfl,rfl,rfl,cn ⟨by simp;omega,_,rfl,?_⟩⟩
 have E6:=E2.then hok v6
 exact Eu (d:=gW (g.1,ws,decide (r6=0))) (fun S1 v=>h _ _ ⟨hg.1,by show ws.length=_;rw [hwl];exact hg.2.1,hws⟩ rfl hwk v) E6 rfl hk
structure OS (k o:Nat) (L:List D) (S S1:aJ):Prop where
 p:mv k S1
 len:S.length+1≤S1.length
 oth:∀j,j < S.length→j≠k→S1[j]? =S[j]?
 gl:S1[o]? =some (.lst L)
theorem OS.then{k o:Nat}{L:List D}{S S1 S2:aJ}(a:OS k o L S S1)(h:o≠k)(b:Ev k S1 S2):OS k o L S S2:=⟨b.p,by rw[b.len];exact a.len,fun j h1 h2=>(b.oth j h2).trans (a.oth j h1 h2),(b.oth o h).trans a.gl⟩
theorem OS.set{k o m:Nat}{L M:List D}{S S1:aJ}(a:OS k o L S S1)(h1:m≠k)(h2:m≠o)(h3:S.length≤m):OS k o L S (S1.set m (.lst M)):=by
 obtain⟨f,x,c,e⟩:=a.p
 exact⟨⟨f.set _ (kg _),x,c,by rw[List.getElem?_set_ne h1];exact e⟩,by rw[List.length_set];exact a.len,fun j hj hk=>by rw[List.getElem?_set_ne (by omega)];exact a.oth j hj hk,by rw[List.getElem?_set_ne h2];exact a.gl⟩
theorem OS.push{k o:Nat}{L M:List D}{S S1:aJ}(a:OS k o L S S1)(ho:o < S1.length):OS k o L S (S1++[.lst M]):=
 ⟨a.p.push M,by rw[List.length_append];have:=a.len;omega,fun j hj hk=>by rw[List.getElem?_append_left (by have:=a.len;omega)];exact a.oth j hj hk,by rw[List.getElem?_append_left ho];exact a.gl⟩
theorem OS.put{k o:Nat}{L L':List D}{S S1:aJ}(a:OS k o L S S1)(h1:o≠k)(h3:S.length≤o):OS k o L' S (S1.set o (.lst L')):=by
 obtain⟨f,x,c,e⟩:=a.p
 exact⟨⟨f.set _ (kg _),x,c,by rw[List.getElem?_set_ne h1];exact e⟩,by rw[List.length_set];exact a.len,fun j hj hk=>by rw[List.getElem?_set_ne (by omega)];exact a.oth j hj hk,gL a.gl⟩
noncomputable def oE(k q o:Nat)(ss:List Str)(a5 a6 a7 a8 a9 a10:Option V3):DE:=[some (.loc k),some (.loc q),some (.d (.lst (ss.map .str))),some (.d (.int 6)),some (.loc o),a5,a6,a7,a8,a9,a10]
noncomputable def Fm:List D:=[.int 1, .int 1, .int 2, .int 2, .int 3, .int 3]
theorem CJ(r:Nat)(h:r < 6):∃w:Nat,1≤w∧w≤3∧cw (.lst Fm) (.int r)= .ok (nI w):=by
 match r,h with
 | 0,_=>exact⟨1,by omega,by omega,rfl⟩
 | 1,_=>exact⟨1,by omega,by omega,rfl⟩
 | 2,_=>exact⟨2,by omega,by omega,rfl⟩
 | 3,_=>exact⟨2,by omega,by omega,rfl⟩
 | 4,_=>exact⟨3,by omega,by omega,rfl⟩
 | 5,_=>exact⟨3,by omega,by omega,rfl⟩
theorem anew{S S1:aJ}{k q o m:Nat}{ks:List Int}{L:List D}{ss:List Str}{i wd:Nat}{way lim:Int}{at':Nat}{a6 a7:Option V3}{ws:List Nat}(hq:q≠k)(hqS:q < S.length)(ho:o≠k)(hmk:m≠k)(hmo:m≠o)(hm:S.length≤m)(h0:0 < ks.length)(hn:ks.length < 10000)
 (eS:S[q]? =some (.lst (ks.map .int))) (hwl:ws.length=wd) (hat:at' < 3) (hws:∀w∈ws,w < ks.length) (E:OS k o L S S1) (em:S1[m]? =some (.lst (ws.map nI))) :
 W3 (x6 (bP (kq (b2 ik (ai 8) (eC (.int 3))) (b2 tO (ai 10) (eC (.int lim))))) (tu (bw 9) (xP (eC (nI at'))) (bt az (ax (bw 0) (ax (xT (aK cK (au (ai 1) aI))) bG)))) oQ
  (oE k q o ss (some (.d (nI i))) a6 a7 (some (.d (nI wd))) (some (.loc m)) (some (.d (.int way)))) S1)
  fun ou S2=>ou= .nx (oE k q o ss (some (.d (nI i))) a6 a7 (some (.d (nI wd))) (some (.loc m)) (some (.d (.int way))))∧OS k o L S S2∧∃ws':List Nat,ws'.length=wd∧(∀w∈ws',w < ks.length)∧(wd≠3→ws'=ws)∧S2[m]? =some (.lst (ws'.map nI)):=by
 have eq1:S1[q]? =some (.lst (ks.map .int)):=by rw[E.oth q hqS hq];exact eS
 obtain⟨c,hc,hc3⟩:∃c:Bool,kq (b2 ik (ai 8) (eC (.int 3))) (b2 tO (ai 10) (eC (.int lim))) (down (oE k q o ss (some (.d (nI i))) a6 a7 (some (.d (nI wd))) (some (.loc m)) (some (.d (.int way)))))= .ok c∧(c=true→wd=3):=by
  have e1:b2 ik (ai 8) (eC (.int 3)) (down (oE k q o ss (some (.d (nI i))) a6 a7 (some (.d (nI wd))) (some (.loc m)) (some (.d (.int way)))))= .ok (decide ((wd:Int)=3)):=rfl
  have e3:b2 tO (ai 10) (eC (.int lim)) (down (oE k q o ss (some (.d (nI i))) a6 a7 (some (.d (nI wd))) (some (.loc m)) (some (.d (.int way)))))= .ok (decide (lim < way)):=rfl
  unfold kq
  rw[e1,R.aS,e3]
  by_cases h3:(wd:Int)=3
  ·exact⟨_,by rw[decide_eq_true h3,if_pos rfl],fun _=>by omega⟩
  ·exact⟨false,by rw[decide_eq_false h3,if_neg (by decide)],fun z=>by cases z⟩
 refine s_ (CL hc ?_)
 cases c with
 | true=>
   rw[if_pos rfl]
   have hwd:=hc3 rfl
   refine xY (va (k:=k) rfl E.p (ib eq1 rfl) (by omega) (by omega) fun r S2 h1 h2 v2=>w_var (v:= .loc m) rfl (cQ (d:=nI at') rfl ⟨_,m,(at':Int),ws.map nI,at',rfl,rfl,rfl,by rw[v2.oth m hmk];exact em,?_,rfl,(E.then ho v2).set hmk hmo hm,ws.set at' r.toNat,by rw[List.length_set];exact hwl,?_,fun z=>absurd hwd z,?_⟩))
   ·unfold m8
    rw[if_pos (by omega),if_pos (by rw[List.length_map];omega)]
    simp
   ·intro w hw
    rcases List.mem_or_eq_of_mem_set hw with z | z
    ·exact hws w z
    ·subst z;omega
   ·rw[gL (x:= .lst (ws.map nI)) (by rw[v2.oth m hmk];exact em),List.map_set]
    unfold nI
    rw[Int.toNat_of_nonneg h1]
 | false=>
   rw[if_neg (by decide)]
   exact og ⟨rfl,E,ws,hwl,hws,fun _=>rfl,em⟩
theorem xJ{S S1:aJ}{k q o:Nat}{ks:List Int}{ss:List Str}{i:Nat}{a6 a7 a8 a9 a10:Option V3}{os:List (Str × List Nat)}(hq:q≠k)(hk:k < S.length)(ho:o=S.length)(h0:0 < ks.length)(hn:ks.length < 10000)(hss:ss.length=8)(hi:i < 6)(hl:os.length < 100)(eS:S[q]? =some (.lst (ks.map .int)))(E:OS k o (os.map uq) S S1) :
 W3 (iK (oE k q o ss (some (.d (nI i))) a6 a7 a8 a9 a10) S1) fun ou S2=>∃δ2,ou= .nx δ2∧(∃b5 b6 b7 b8 b9 b10,δ2=oE k q o ss b5 b6 b7 b8 b9 b10)∧∃x:Str × List Nat,((1≤x.2.length∧x.2.length≤3)∧(∀w∈x.2,w < ks.length)∧∀a b,x.2=[a,b]→ks.getD a 0=ks.getD b 0)∧OS k o ((os++[x]).map uq) S S2:=by
 have hz:sizeLine=16777216:=sizeLine_eq
 have hqS:q < S.length:=(List.getElem?_eq_some_iff.mp eS).1
 have hok:o≠k:=by omega
 have keq:∀{S2:aJ} {L:List D},OS k o L S S2→S2[q]? =some (.lst (ks.map .int)):=fun E2=>by rw[E2.oth q hqS hq];exact eS
 unfold iK oE
 refine aQ <| br (by simp only[List.length_cons,List.length_nil,List.length_set];omega) <| xv <| qQ (d:= .int ((ks.length:Int) - 1)) (aG (a:= .int ks.length) (b:= .int 1) (ib (keq E) rfl) rfl rfl) rfl <| va (k:=k) rfl E.p (ib (keq E) rfl) (by omega) (by omega) fun r S2 h1 h2 v2=>⟨_,_,nI ((ks.length:Int) - 1 - r).toNat,rfl,rfl,?_,_,rfl,?_⟩
 ·show R.ok (D.int ((ks.length:Int) - 1 - r))=R.ok (D.int ((((ks.length:Int) - 1 - r).toNat:Nat):Int))
  rw[Int.toNat_of_nonneg (by omega)]
 simp only[List.set_cons_succ,List.set_cons_zero]
 have hw:((ks.length:Int) - 1 - r).toNat < ks.length:=by omega
 generalize ((ks.length:Int) - 1 - r).toNat=w at hw
 have E2:=E.then hok v2
 refine aQ <| br (by simp only[List.length_cons,List.length_nil,List.length_set];omega) <| u7 (q:=q) (keq E2) hw hn rfl (lQ (qQ (d:= .int ks.length) (ib (keq E2) rfl) rfl ⟨ks.length,rfl,by omega,rfl,rfl⟩)) fun l hl0 hl1 hl2=>⟨_,rfl,?_⟩
 simp only[List.set_cons_succ,List.set_cons_zero]
 refine aQ <| br (by simp only[List.length_cons,List.length_nil,List.length_set];omega) <| yu <| cQ (d:= .lst Fm) rfl <| draw (k:=k) rfl E2.p rfl (by omega) (by omega) fun r3 S3 h3 h4 v3=>?_
 obtain⟨wd,hw1,hw3,ewd⟩:=CJ r3.toNat (by omega)
 rw[Int.toNat_of_nonneg h3] at ewd
 refine⟨_,_,_,rfl,rfl,ewd,_,rfl,?_⟩
 simp only[List.set_cons_succ,List.set_cons_zero]
 have E3:=E2.then hok v3
 refine aQ <| br (by simp only[List.length_cons,List.length_nil,List.length_set];omega) <| BW <| cQ (d:= .lst [nI w]) rfl ?_
 refine gM (fun j ds S4=>OS k o (os.map uq) S S4∧∃ws:List Nat,ds=ws.map nI∧(∀x∈ws,x < ks.length∧ks.getD x 0=ks.getD w 0)∧ws.length=j) (kN (f_ (n:=wd - 1) ?_ (by omega)) ⟨by simp [bZ];omega,⟨E3,[],rfl,by simp,rfl⟩,?_,?_⟩)
 ·refine aG (a:=nI wd) (b:= .int 1) rfl rfl ?_
  show R.ok (D.int ((wd:Int) - 1))=R.ok (D.int (((wd - 1:Nat)):Int))
  rw[Int.ofNat_sub hw1];rfl
 ·rintro j v ds S4 hv ⟨E4,ws,rfl,hws,hwl⟩
  refine⟨[some v,some (.loc k),some (.d (.lst (l.map nI)))],rfl,lZ ?_⟩
  rw[if_pos rfl]
  refine vH (k:=k) (l:=l) (cQ rfl ⟨rfl,rfl⟩) rfl E4.p (aO (ds:=[.lst (l.map nI)]) rfl (by rw[kr,List.length_map])) hl0 hl1 fun x S5 hx v5=>⟨nI x,rfl,E4.then hok v5,ws++[x],by simp,?_,by simp [hwl]⟩
  intro y hy
  rcases List.mem_append.mp hy with z | z
  ·exact hws y z
  ·rw[List.mem_singleton] at z;subst z;exact hl2 _ hx
 ·rintro ds S4 ⟨E4,ws,rfl,hws,hwl⟩
  have hrl:((bZ 0 (wd - 1)).map V3.d).length=wd - 1:=by simp [bZ]
  rw[hrl] at hwl
  refine⟨[nI w],ws.map nI,rfl,rfl,by rw[List.length_map];simp;omega,_,rfl,?_⟩
  simp only[List.set_cons_succ,List.set_cons_zero]
  have hle:=E4.len
  have ho4:o < S4.length:=(List.getElem?_eq_some_iff.mp E4.gl).1
  have E5:=E4.push (M:=[nI w]++ws.map nI) ho4
  have em5:(S4++[SO.lst ([nI w]++ws.map nI)])[S4.length]? =some (.lst ((w ::ws).map nI)):=bh _ _
  have hmk:S4.length≠k:=by omega
  have hmo:S4.length≠o:=by omega
  have hmS:S.length≤S4.length:=by omega
  have hws1:∀x∈w ::ws,x < ks.length:=fun x hx=>by
   rcases List.mem_cons.mp hx with z | z
   ·subst z;exact hw
   ·exact(hws x z).1
  generalize S4++[SO.lst ([nI w]++ws.map nI)]=S5 at E5 em5
  generalize S4.length=m at em5 hmk hmo hmS
  refine aQ <| br (by simp only[List.length_cons,List.length_nil,List.length_set];omega) <| draw (k:=k) rfl E5.p rfl (by omega) (by omega) fun way S6 h5 h6 v6=>⟨_,rfl,?_⟩
  simp only[List.set_cons_succ,List.set_cons_zero]
  have E6:=E5.then hok v6
  have em6:S6[m]? =some (.lst ((w ::ws).map nI)):=by rw[v6.oth m hmk];exact em5
  refine aQ ((anew (ss:=ss) (i:=i) (wd:=wd) (way:=way) (lim:=0) (at':=2) hq hqS hok hmk hmo hmS h0 hn eS (by simp;omega) (by omega) hws1 E6 em6).mono fun ou S7 ⟨e7,E7,ws7,hl7,hw7,hs7,em7⟩=>⟨_,e7,?_⟩)
  refine aQ ((anew (ss:=ss) (i:=i) (wd:=wd) (way:=way) (lim:=1) (at':=1) hq hqS hok hmk hmo hmS h0 hn eS hl7 (by omega) hw7 E7 em7).mono fun ou S8 ⟨e8,E8,ws8,hl8,hw8,hs8,em8⟩=>⟨_,e8,?_⟩)
  unfold oE
  refine ip (k:=o) rfl ⟨_,E8.gl⟩ (qQ (d:=uq (ss[i]'(by omega),ws8)) ?_ ?_ ⟨_,_,rfl,E8.gl,by rw[List.length_map];omega,_,rfl,⟨_,_,_,_,_,_,rfl⟩,(ss[i]'(by omega),ws8),⟨⟨by show 1≤ws8.length;omega,by show ws8.length≤3;omega⟩,hw8,?_⟩,?_⟩)
  ·refine iY (aR (aG (a:= .lst (ss.map .str)) (b:=nI i) rfl rfl (iZ (qH (by rw[List.getElem?_map,List.getElem?_eq_getElem (by omega)];rfl)))) (aR (uo rfl em8) rfl)) (by simp;omega)
  ·unfold uq jm gZ
   rw[show jm (.str _)=true from by unfold jm;rfl]
   unfold gZ
   rw[kY]
   unfold gZ
   rfl
  ·intro a b hab
   have hab:ws8=[a,b]:=hab
   have h2:wd=2:=by rw[←hl8,hab];rfl
   rw[hs8 (by omega),hs7 (by omega)] at hab
   cases hab
   exact((hws b (by simp)).2).symm
  ·rw[List.map_append]
   exact E8.put hok (by omega)
theorem wO{S:aJ}{k q:Nat}{ks:List Int}{ss:List Str}(p:mv k S)(hq:q≠k)(e:S[q]? =some (.lst (ks.map .int)))(h0:0 < ks.length)(hn:ks.length < 10000)(hss:ss.length=8){Q:V3→aJ→Prop}
 (h:∀(os:List (Str × List Nat)) S1,1≤os.length→os.length < 100→(∀x∈os,(1≤x.2.length∧x.2.length≤3)∧(∀w∈x.2,w < ks.length)∧∀a b,x.2=[a,b]→ks.getD a 0=ks.getD b 0)→Ev k S S1→Q (.d (.lst (os.map uq))) S1):W3 (fU [.loc k, .loc q, .d (.lst (ss.map .str)), .d (.int 6)] S) Q:=by
 have hz:sizeLine=16777216:=sizeLine_eq
 have hk:=p.lt
 unfold fU
 refine mZ (qe rfl ?_)
 simp only[bx,fG,List.map_cons,List.map_nil,List.length_cons,List.length_nil,List.replicate,List.cons_append,List.nil_append,Nat.reduceAdd,Nat.reduceSub]
 unfold kK
 refine aQ <| br (by simp only[List.length_cons,List.length_nil,List.length_set];omega) <| ie (ds:=[]) rfl ⟨_,rfl,?_⟩
 simp only[List.set_cons_succ,List.set_cons_zero]
 have E1:OS k S.length (([]:List (Str × List Nat)).map uq) S (S++[.lst []]):=⟨p.push [],by simp,fun j hj _=>List.getElem?_append_left hj,bh _ _⟩
 refine aQ <| gz <| lQ <| xv <| cQ (d:= .int 1) rfl <| draw (k:=k) rfl E1.p rfl (by omega) (by omega) fun r S2 h1 h2 v2=>⟨_,_, .int ((1+r).toNat:Nat),rfl,rfl,by rw[Int.toNat_of_nonneg (by omega)];rfl,(1+r).toNat,rfl,by omega,?_⟩
 have E2:=E1.then (by omega) v2
 refine(cc (fun i δ S3=>(∃b5 b6 b7 b8 b9 b10,δ=oE k q S.length ss b5 b6 b7 b8 b9 b10)∧∃os:List (Str × List Nat),os.length=i∧(∀x∈os,(1≤x.2.length∧x.2.length≤3)∧(∀w∈x.2,w < ks.length)∧∀a b,x.2=[a,b]→ks.getD a 0=ks.getD b 0)∧OS k S.length (os.map uq) S S3)
  ⟨⟨_,_,_,_,_,_,rfl⟩,[],rfl,by simp,E2⟩ ?_).mono fun o S3 ⟨δ3,e3,⟨b5,b6,b7,b8,b9,b10,hδ⟩,os,hol,hos,E3⟩=>⟨δ3,e3,?_⟩
 ·rintro i v δ S3 hv ⟨⟨b5,b6,b7,b8,b9,b10,rfl⟩,os,hol,hos,E3⟩
  rw[List.getElem?_map] at hv
  cases qq:(bZ 0 (1+r).toNat)[i]? with
  | none=>rw [qq] at hv;cases hv
  | some d0=>
    rw[qq] at hv
    obtain⟨hi,rfl⟩:=lE qq
    cases hv
    refine⟨oE k q S.length ss (some (.d (nI i))) b6 b7 b8 b9 b10,rfl,?_⟩
    refine(xJ hq hk rfl h0 hn hss (by omega) (by omega) e E3).mono fun ou S4 ⟨δ4,e4,h4,x,hx,E4⟩=>⟨δ4,e4,h4,os++[x],by simp [hol],?_,E4⟩
    intro y hy
    rcases List.mem_append.mp hy with z | z
    ·exact hos y z
    ·rw[List.mem_singleton] at z;subst z;exact hx
 have hrl:((bZ 0 (1+r).toNat).map V3.d).length=(1+r).toNat:=by simp [bZ]
 rw[hrl] at hol
 subst hδ
 unfold oE
 refine eG (w_var rfl ⟨_,rfl,E3.p.1,by unfold d8;exact decide_eq_true (Nat.le_refl _),_,gK E3.gl,?_⟩)
 have hle:=E3.len
 refine h os _ (by omega) (by omega) hos ⟨⟨E3.p.1.take _,?_⟩,by rw[List.length_take];omega,fun j hj=>?_⟩
 ·obtain⟨_,a,c,e⟩:=E3.p
  exact⟨a,c,by rw[List.getElem?_take_of_lt hk];exact e⟩
 ·by_cases hjl:j < S.length
  ·rw[List.getElem?_take_of_lt hjl,E3.oth _ hjl hj]
  ·rw[List.getElem?_eq_none (by rw[List.length_take];omega),List.getElem?_eq_none (by omega)]
end K13
end
section
set_option maxRecDepth 100000
set_option maxHeartbeats 4000000
namespace K13
open PySem PySem.Spec PyProof.Rows L2 L3 MT
structure IS (k a b:Nat) (l:List (Str × Nat)) (ks:List Int) (S S1:aJ):Prop where
 p:mv k S1
 len:S.length+2≤S1.length
 oth:∀j,j < S.length→j≠k→S1[j]? =S[j]?
 ea:S1[a]? =some (.lst (l.map MT.inD))
 eb:S1[b]? =some (.lst (ks.map .int))
 hb:S.length < b
noncomputable def iE(mi ms:Int)(k a b:Nat)(cells:D)(ss:List Str)(a7 a8:Option V3):DE:=[some (.loc k),some (.d cells),some (.d (.int mi)),some (.d (.int ms)),some (.d (.lst (ss.map .str))),some (.loc a),some (.loc b),a7,a8,none,none,none,none,none]
theorem xk(c:Int)(n:Nat):(List.replicate n [D.int c]).flatten=(List.replicate n c).map D.int:=by
 induction n with
 | zero=>rfl
 | succ n ih=>rw [List.replicate_succ,List.flatten_cons,ih,List.replicate_succ];rfl
theorem Cz{f:aw→R (List D)}{g:FD}{δ:aw}{ds:List D}{n:Nat}(h1:f δ= .ok ds)(h2:g δ= .ok (.int n))(hn:n < 1000000)(hl:ds.length*n≤sizeLine):AQ f g δ= .ok (List.replicate n ds).flatten:=by
 unfold AQ
 rw[h1,R.aS,h2,R.aS]
 show R.bF (decide (0≤(n:Int)∧(n:Int) < 1000000∧ds.length*(n:Int).toNat≤sizeLine)) _=_
 rw[bB _ ⟨by omega,by omega,by rw[Int.toNat_natCast];exact hl⟩,Int.toNat_natCast]
theorem Av{mi ms:Int}{S S1:aJ}{k a b i:Nat}{cells:D}{ss:List Str}{a8:Option V3}{l:List (Str × Nat)}{ks:List Int}(hk:k < S.length)(ha:a=S.length)(hss:ss.length=8)(hi:i < 6)(hl:l.length < 100)(hks:ks.length < 1000)(E:IS k a b l ks S S1) :
 W3 (jO (iE mi ms k a b cells ss (some (.d (nI i))) a8) S1) fun o S2=>∃δ2,o= .nx δ2∧∃b' a8',δ2=iE mi ms k a b' cells ss (some (.d (nI i))) a8'∧∃(s:Str) (w:Nat),1≤w∧w≤3∧IS k a b' (l++[(s,w)]) (ks++List.replicate w (i:Int)) S S2:=by
 have hz:sizeLine=16777216:=sizeLine_eq
 have hbS:=E.hb
 have hbl:b < S1.length:=(List.getElem?_eq_some_iff.mp E.eb).1
 unfold jO iE
 refine aQ <| br (by simp only[List.length_cons,List.length_nil,List.length_set];omega) <| BJ (k:=k) rfl E.p (by omega) (by omega) fun w S2 h1 h2 v2=>⟨_,rfl,?_⟩
 simp only[List.set_cons_succ,List.set_cons_zero]
 have ea2:S2[a]? =some (.lst (l.map MT.inD)):=by rw[v2.oth a (by omega)];exact E.ea
 have eb2:S2[b]? =some (.lst (ks.map .int)):=by rw[v2.oth b (by omega)];exact E.eb
 refine aQ <| ip (k:=a) rfl ⟨_,ea2⟩ <| cQ (d:=MT.inD (ss[7 - i]'(by omega),w)) ?_ ⟨_,_,rfl,ea2,by rw[List.length_map];omega,_,rfl,?_⟩
 ·refine iY (aR (aG (a:= .lst (ss.map .str)) (b:=nI (7 - i)) rfl ?_ (iZ (qH (by rw[List.getElem?_map,List.getElem?_eq_getElem (by omega)];rfl)))) (aR rfl rfl)) (by simp;omega)
  refine aG (a:= .int 7) (b:=nI i) rfl rfl ?_
  show R.ok (D.int (7 - (i:Int)))=R.ok (D.int ((7 - i:Nat):Int))
  rw[Int.ofNat_sub (by omega)];rfl
 have eb3:(S2.set a (.lst (l.map MT.inD++[MT.inD (ss[7 - i]'(by omega),w)])))[b]? =some (.lst (ks.map .int)):=by rw[List.getElem?_set_ne (by omega)];exact eb2
 have ea3:(S2.set a (.lst (l.map MT.inD++[MT.inD (ss[7 - i]'(by omega),w)])))[a]? =some (.lst (l.map MT.inD++[MT.inD (ss[7 - i]'(by omega),w)])):=gL ea2
 have p3:mv k (S2.set a (.lst (l.map MT.inD++[MT.inD (ss[7 - i]'(by omega),w)]))):=by
  obtain⟨f,x,c,e⟩:=v2.p
  exact⟨f.set _ (kg _),x,c,by rw[List.getElem?_set_ne (by omega)];exact e⟩
 have hl3:(S2.set a (.lst (l.map MT.inD++[MT.inD (ss[7 - i]'(by omega),w)]))).length=S1.length:=by rw[List.length_set,v2.len]
 have ho3:∀j,j < S.length→j≠k→(S2.set a (.lst (l.map MT.inD++[MT.inD (ss[7 - i]'(by omega),w)])))[j]? =S[j]?:=fun j hj hk=>by rw[List.getElem?_set_ne (by omega),v2.oth j hk];exact E.oth j hj hk
 generalize S2.set a (.lst (l.map MT.inD++[MT.inD (ss[7 - i]'(by omega),w)]))=S3 at eb3 ea3 p3 hl3 ho3
 refine br (by simp only[List.length_cons,List.length_nil,List.length_set];omega) <| BW <| w_var (v:= .loc b) rfl <| cQ (d:= .lst ((List.replicate w (i:Int)).map .int)) ?_ ⟨ks.map .int,(List.replicate w (i:Int)).map .int,by unfold t9 cg;simp only[eb3],rfl,by rw[List.length_map,List.length_map,List.length_replicate];omega,_,rfl,S3.length,_,rfl,ss[7 - i]'(by omega),w,h1,by omega,?_⟩
 ·refine gH ?_
  rw[Cz (n:=w) (ds:=[nI i]) (qf rfl (by simp;omega)) rfl (by omega) (by simp;omega)]
  unfold nI
  rw[xk]
 ·have hE:=E.len
  refine⟨p3.push _,by rw[List.length_append];omega,fun j hj hk=>by rw[List.getElem?_append_left (by omega)];exact ho3 j hj hk,?_,?_,by omega⟩
  ·rw[List.getElem?_append_left (by omega),List.map_append];exact ea3
  ·rw[List.map_append];exact bh _ _
structure NS (k a b c:Nat) (l:List (Str × Nat)) (ks:List Int) (gs:List Gt) (S S1:aJ):Prop where
 p:mv k S1
 len:S.length+3≤S1.length
 oth:∀j,j < S.length→j≠k→S1[j]? =S[j]?
 ea:S1[a]? =some (.lst (l.map MT.inD))
 eb:S1[b]? =some (.lst (ks.map .int))
 ec:S1[c]? =some (.lst (gs.map gW))
noncomputable def nE(mi ms:Int)(k a b c n:Nat)(cells:D)(ss:List Str)(a7 a8 a11 a12 a13:Option V3):DE:=[some (.loc k),some (.d cells),some (.d (.int mi)),some (.d (.int ms)),some (.d (.lst (ss.map .str))),some (.loc a),some (.loc b),a7,a8,some (.d (nI n)),some (.loc c),a11,a12,a13]
theorem B5(g:Gt):jm (gW g)=true:=by
 unfold gW jm gZ
 rw[show jm (.str _)=true from by unfold jm;rfl]
 unfold gZ
 rw[kY]
 unfold gZ
 rw[show jm (.bl _)=true from by unfold jm;rfl]
 unfold gZ
 rfl
theorem ne_nil(gs:List Gt)(hg:∀g∈gs,kz 100000 g):zU (.lst (gs.map gW)) (.lst [])= .ok gs.isEmpty:=by
 have f:gg 4 (.lst (gs.map gW)):=gg.lst fun d hd=>by
  obtain⟨g,h,rfl⟩:=List.mem_map.mp hd
  have hk:=(hg g h).1
  refine gg.tup fun x hx=>?_
  simp only[List.mem_cons,List.not_mem_nil,or_false] at hx
  rcases hx with rfl | rfl | rfl
  ·refine(gg.str ?_).mono (by omega)
   match g.1,hk with
   | 0,_=>decide+kernel
   | 1,_=>decide+kernel
   | 2,_=>decide+kernel
   | 3,_=>decide+kernel
   | 4,_=>decide+kernel
  ·refine(gg.tup (n:=0) fun y hy=>?_).mono (by omega)
   obtain⟨z,_,rfl⟩:=List.mem_map.mp hy
   exact gg.int _
  ·exact(gg.bl _).mono (by omega)
 rw[um,f.pl,f.sh (by omega),(gg.lst (n:=0) (ds:=[]) (by simp)).pl,(gg.lst (n:=0) (ds:=[]) (by simp)).sh (by omega)]
 cases gs with
 | nil=>rfl
 | cons g gs=>rfl
theorem NS.own{k a b c m:Nat}{l:List (Str × Nat)}{ks:List Int}{gs:List Gt}{S S1 S2:aJ}(E:NS k a b c l ks gs S S1)(hm:S.length≤m)(hk:k < S.length)(ha:a≠m)(hb:b≠m)(hc:c≠m)(v:Ev m S1 S2):NS k a b c l ks gs S S2:=by
 obtain⟨f,x,y,e⟩:=E.p
 exact⟨⟨v.p.1,x,y,by rw[v.oth k (by omega)];exact e⟩,by rw[v.len];exact E.len,fun j hj hjk=>by rw[v.oth j (by omega)];exact E.oth j hj hjk,by rw[v.oth a ha];exact E.ea,by rw[v.oth b hb];exact E.eb,by rw[v.oth c hc];exact E.ec⟩
theorem NS.add{k a b c:Nat}{l:List (Str × Nat)}{ks:List Int}{gs:List Gt}{g:Gt}{x:Int}{S S1:aJ}(E:NS k a b c l ks gs S S1)(hk:k < S.length)(hbS:S.length≤b)(hcS:S.length≤c)(hab:a≠b)(hac:a≠c)(hbc:b≠c) :
 NS k a b c l (ks++[x]) (gs++[g]) S ((S1.set c (.lst (gs.map gW++[gW g]))).set b (.lst (ks.map .int++[.int x]))):=by
 obtain⟨f,u,y,e⟩:=E.p
 refine⟨⟨(f.set _ (kg _)).set _ (kg _),u,y,by rw[List.getElem?_set_ne (by omega),List.getElem?_set_ne (by omega)];exact e⟩,by rw[List.length_set,List.length_set];exact E.len,fun j hj hjk=>by rw[List.getElem?_set_ne (by omega),List.getElem?_set_ne (by omega)];exact E.oth j hj hjk,
  by rw[List.getElem?_set_ne (Ne.symm hab),List.getElem?_set_ne (Ne.symm hac)];exact E.ea,?_,?_⟩
 ·rw[List.map_append];exact gL (x:= .lst (ks.map .int)) (by rw[List.getElem?_set_ne (Ne.symm hbc)];exact E.eb)
 ·rw[List.getElem?_set_ne hbc,List.map_append];exact gL E.ec
theorem Dt{S:aJ}{δ:DE}{i j c p:Nat}{gs:List Gt}{g:Gt}(hi:δ[i]? =some (some (.loc c)))(hj:δ[j]? =some (some (.d (nI p))))(e:S[c]? =some (.lst (gs.map gW)))(hg:gs[p]? =some g):e2 cw (ai i) (ai j) (bz S δ)= .ok (gW g):=by
 refine aG (a:= .lst (gs.map gW)) (b:=nI p) ?_ ?_ (FP hg)
 ·unfold ai bz
  rw[List.getElem?_map,hi]
  show(match some (match res S (.loc c) with | some d=>Sl.val d | none=> .un) with | some (.val d)=>R.ok d | _=> .no)=_
  rw[gK e]
 ·unfold ai bz
  rw[List.getElem?_map,hj]
  rfl
theorem xK{mi ms:Int}{S S1:aJ}{k a b c n:Nat}{cells:D}{ss:List Str}{cell:Int}{a7 a8 a12 a13:Option V3}{l:List (Str × Nat)}{ks:List Int}{gs:List Gt}(hk:k < S.length)(haS:S.length≤a)(hbS:S.length≤b)(hcS:S.length≤c)(hab:a≠b)(hac:a≠c)(hbc:b≠c)
 (hn:0 < n) (hkn:ks.length=n+gs.length) (hks:ks.length < 10000) (hgs:∀(i:Nat) (g:Gt),gs[i]? =some g→kz (n+i) g) (E:NS k a b c l ks gs S S1) :
 W3 (jQ (nE mi ms k a b c n cells ss a7 a8 (some (.d (.int cell))) a12 a13) S1) fun o S2=>∃δ2,o= .nx δ2∧(∃b11 b12 b13,δ2=nE mi ms k a b c n cells ss a7 a8 b11 b12 b13)∧∃(g:Gt) (x:Int),kz ks.length g∧(x=(ks.length:Int)+10∨∃pl g0,gs[pl]? =some g0∧x=ks.getD (n+pl) 0∧g.1=g0.1∧g.2.1.map (ks.getD · 0)=g0.2.1.map (ks.getD · 0))∧NS k a b c l (ks++[x]) (gs++[g]) S S2:=by
 have hz:sizeLine=16777216:=sizeLine_eq
 have hgl:gs.length < 10000:=by omega
 have la:a < S1.length:=(List.getElem?_eq_some_iff.mp E.ea).1
 have lb:b < S1.length:=(List.getElem?_eq_some_iff.mp E.eb).1
 have lc:c < S1.length:=(List.getElem?_eq_some_iff.mp E.ec).1
 have hE:=E.len
 unfold jQ nE
 refine aQ <| br (by simp only[List.length_cons,List.length_nil,List.length_set];omega) <| cG <| aD <| cQ (d:= .int cell) rfl <| cn <| uL cell E.p.1 fun S2 p2 l2 o2=>⟨_,rfl,?_⟩
 simp only[List.set_cons_succ,List.set_cons_zero]
 have E2:NS k a b c l ks gs S S2:=by
  obtain⟨f,u,y,e⟩:=E.p
  exact⟨⟨p2.1,u,y,by rw[o2 k (by omega)];exact e⟩,by omega,fun j hj hjk=>by rw[o2 j (by omega)];exact E.oth j hj hjk,by rw[o2 a la];exact E.ea,by rw[o2 b lb];exact E.eb,by rw[o2 c lc];exact E.ec⟩
 have hmS:S.length≤S1.length:=by omega
 have ha:a≠S1.length:=by omega
 have hb:b≠S1.length:=by omega
 have hc:c≠S1.length:=by omega
 generalize S1.length=m at p2 l2 o2 hmS ha hb hc
 have gate:∀(S3:aJ),NS k a b c l ks gs S S3→mv m S3→∀(a13':Option V3),W3 (bo (iq 10 (bt eE (ax (bw 12) (ax (bw 6) (ax (xP (ai 3)) bG))))) (iq 6 (xT (e2 dH (aK cK (au (ai 6) aI)) (eC (.int 10)))))
  [some (.loc k),some (.d cells),some (.d (.int mi)),some (.d (.int ms)),some (.d (.lst (ss.map .str))),some (.loc a),some (.loc b),a7,a8,some (.d (nI n)),some (.loc c),some (.d (.int cell)),some (.loc m),a13'] S3)
  fun o S4=>∃δ2,o= .nx δ2∧(∃b11 b12 b13,δ2=nE mi ms k a b c n cells ss a7 a8 b11 b12 b13)∧∃(g:Gt) (x:Int),kz ks.length g∧(x=(ks.length:Int)+10∨∃pl g0,gs[pl]? =some g0∧x=ks.getD (n+pl) 0∧g.1=g0.1∧g.2.1.map (ks.getD · 0)=g0.2.1.map (ks.getD · 0))∧NS k a b c l (ks++[x]) (gs++[g]) S S4:=fun S3 E3 p3 a13'=>by
  refine aQ <| ip (k:=c) rfl ⟨_,E3.ec⟩ <| cG <| aD <| w_var (v:= .loc m) rfl <| aD <| w_var (v:= .loc b) rfl <| aD <| cQ (d:= .int ms) rfl <| cn <| wD (k:=m) p3 hb E3.eb (by omega) hks fun g S4 hg v4=>?_
  have E4:=E3.own hmS hk ha hb hc v4
  refine⟨gW g,_,rfl,E4.ec,by rw[List.length_map];omega,_,rfl,?_⟩
  have eb5:(S4.set c (.lst (gs.map gW++[gW g])))[b]? =some (.lst (ks.map .int)):=by rw[List.getElem?_set_ne (Ne.symm hbc)];exact E4.eb
  refine ip (k:=b) rfl ⟨_,eb5⟩ (qQ (d:= .int ((ks.length:Int)+10)) (aG (a:= .int ks.length) (b:= .int 10) (ib eb5 rfl) rfl rfl) rfl ⟨_,_,rfl,eb5,by rw[List.length_map];omega,_,rfl,⟨_,_,_,rfl⟩,g,(ks.length:Int)+10,hg, .inl rfl,E4.add hk hbS hcS hab hac hbc⟩)
 have hT:∀{S3:aJ},NS k a b c l ks gs S S3→bT (b2 sU (ai 10) (eNew (dE aI))) [some (.loc k),some (.d cells),some (.d (.int mi)),some (.d (.int ms)),some (.d (.lst (ss.map .str))),some (.loc a),some (.loc b),a7,a8,some (.d (nI n)),some (.loc c),some (.d (.int cell)),some (.loc m),a13] S3= .ok (!gs.isEmpty) S3:=fun {S3} E3=>by
  unfold bT
  have:b2 sU (ai 10) (eNew (dE aI)) (bz S3 [some (.loc k),some (.d cells),some (.d (.int mi)),some (.d (.int ms)),some (.d (.lst (ss.map .str))),some (.loc a),some (.loc b),a7,a8,some (.d (nI n)),some (.loc c),some (.d (.int cell)),some (.loc m),a13])= .ok (!gs.isEmpty):=by
   refine iB (a:= .lst (gs.map gW)) (b:= .lst []) ?_ rfl ?_
   ·unfold ai bz
    show(match some (match res S3 (.loc c) with | some d=>Sl.val d | none=> .un) with | some (.val d)=>R.ok d | _=> .no)=_
    rw[gK E3.ec]
   ·unfold sU
    rw[ne_nil gs fun g hg=>?_]
    ·rfl
    ·obtain⟨i,hi⟩:=List.getElem?_of_mem hg
     obtain⟨g1,g2,g3⟩:=hgs i g hi
     have hil:=(List.getElem?_eq_some_iff.mp hi).1
     exact⟨g1,g2,fun w hw=>by have:=g3 w hw;omega⟩
  rw[this];rfl
 refine s_ ?_
 unfold Dw
 refine W3.bind (W3.eq (hT E2) ?_)
 cases hgs0:gs with
 | nil=>
   subst hgs0
   exact W3.ok (gate S2 E2 p2 a13)
 | cons g0 gs0=>
   rw[←hgs0]
   have hne:gs.isEmpty=false:=by rw[hgs0];rfl
   have hpos:0 < gs.length:=by rw[hgs0];simp
   rw[hne]
   show W3 (Ea _ _ _ _ S2) _
   refine CC <| draw (k:=m) rfl p2 rfl (by omega) (by omega) fun r S3 h1 h2 v3=>cQ (d:= .int 0) rfl ⟨_,_,decide (r=0),rfl,rfl,rfl,?_⟩
   have E3:=E2.own hmS hk ha hb hc v3
   by_cases hr:r=0
   ·rw[decide_eq_true hr,if_pos rfl]
    have lenG:aK cK (au (ai 10) aI) (bz S3 [some (.loc k),some (.d cells),some (.d (.int mi)),some (.d (.int ms)),some (.d (.lst (ss.map .str))),some (.loc a),some (.loc b),a7,a8,some (.d (nI n)),some (.loc c),some (.d (.int cell)),some (.loc m),a13])= .ok (.int gs.length):=by
     refine aO (ds:=[.lst (gs.map gW)]) (aR ?_ rfl) (by rw[kr,List.length_map])
     unfold ai bz
     show(match some (match res S3 (.loc c) with | some d=>Sl.val d | none=> .un) with | some (.val d)=>R.ok d | _=> .no)=_
     rw[gK E3.ec]
    refine aQ <| br (by simp only[List.length_cons,List.length_nil,List.length_set];omega) <| va (k:=m) rfl v3.p lenG (by omega) (by omega) fun r4 S4 h3 h4 v4=>⟨_,rfl,?_⟩
    simp only[List.set_cons_succ,List.set_cons_zero]
    have E4:=E3.own hmS hk ha hb hc v4
    obtain⟨pl,hpl,epl⟩:∃pl:Nat,pl < gs.length∧D.int r4=nI pl:=⟨r4.toNat,by omega,by unfold nI;rw [Int.toNat_of_nonneg h3]⟩
    rw[epl]
    have hg4:gs[pl]? =some gs[pl]:=List.getElem?_eq_getElem hpl
    obtain⟨q1,q2,q3⟩:=hgs pl _ hg4
    have hgo:kz ks.length gs[pl]:=⟨q1,q2,fun w hw=>by have:=q3 w hw;omega⟩
    refine aQ <| ip (k:=c) rfl ⟨_,E4.ec⟩ <| cG <| aD <| w_var (v:= .loc m) rfl <| aD <| qQ (d:=gW gs[pl]) (Dt rfl rfl E4.ec hg4) (B5 _) <| aD <| w_var (v:= .loc b) rfl <| cn <| uC (k:=m) v4.p hb E4.eb hgo hks fun g S5 hg hg1 hgk v5=>?_
    have E5:=E4.own hmS hk ha hb hc v5
    refine⟨gW g,_,rfl,E5.ec,by rw[List.length_map];omega,_,rfl,?_⟩
    have eb6:(S5.set c (.lst (gs.map gW++[gW g])))[b]? =some (.lst (ks.map .int)):=by rw[List.getElem?_set_ne (Ne.symm hbc)];exact E5.eb
    have hix:n+pl < ks.length:=by omega
    refine ip (k:=b) rfl ⟨_,eb6⟩ (qQ (d:= .int ks[n+pl]) ?_ rfl ⟨_,_,rfl,eb6,by rw[List.length_map];omega,_,rfl,⟨_,_,_,rfl⟩,g,ks[n+pl],hg, .inr ⟨pl,_,hg4,by rw[List.getD_eq_getElem?_getD,List.getElem?_eq_getElem hix];rfl,hg1,hgk⟩,E5.add hk hbS hcS hab hac hbc⟩)
    refine aG (a:= .lst (ks.map .int)) (b:=nI (n+pl)) ?_ (aG (a:=nI n) (b:=nI pl) rfl rfl ?_) (xA hix)
    ·unfold ai bz
     show(match some (match res (S5.set c (.lst (gs.map gW++[gW g]))) (.loc b) with | some d=>Sl.val d | none=> .un) with | some (.val d)=>R.ok d | _=> .no)=_
     rw[gK eb6]
    ·show R.ok (D.int ((n:Int)+(pl:Int)))=R.ok (D.int ((n+pl:Nat):Int))
     rw[Int.natCast_add]
   ·rw[decide_eq_false hr,if_neg (by decide)]
    exact gate S3 E3 v3.p a13
end K13
end
section
set_option maxRecDepth 100000
set_option maxHeartbeats 4000000
namespace K13
open PySem PySem.Spec PyProof.Rows L2 L3 MT
noncomputable def pv(l:List (Str × Nat))(gs:List Gt)(ms:List M)(p n:Nat):Bool:=gm (j0 gs [] (cJ l ms [] l.length) gs.length) n p
theorem mX{gs:List Gt}{t:List Int}{w0:List M}{n:Nat}:∀{j i:Nat},i≤j→j≤gs.length→n < w0.length+i→gm (j0 gs t w0 j) n=gm (j0 gs t w0 i) n
 | 0,i,h,_,_=>by rw[show i=0 by omega]
 | j+1,i,h,hj,hn=>by
   by_cases q:i=j+1
   ·rw[q]
   ·rw[←mX (j:=j) (i:=i) (by omega) (by omega) hn]
    conv=>lhs;unfold j0
    rw[List.getElem?_eq_getElem (by omega:j < gs.length)]
    show gm (j0 gs t w0 j++[_]) n=_
    rw[mQ (by rw[kR j (by omega)];omega)]
theorem uU{gs hs:List Gt}{t:List Int}{w0:List M}:∀i,i≤gs.length→j0 (gs++hs) t w0 i=j0 gs t w0 i
 | 0,_=>rfl
 | i+1,hi=>by
   unfold j0
   rw[List.getElem?_append_left (by omega),List.getElem?_eq_getElem (by omega:i < gs.length),uU i (by omega)]
theorem rF{l:List (Str × Nat)}{x:Str × Nat}{ms:List M}{bad:List Int}:∀i,i≤l.length→cJ (l++[x]) ms bad i=cJ l ms bad i
 | 0,_=>rfl
 | i+1,hi=>by
   unfold cJ
   rw[List.getElem?_append_left (by omega),rF i (by omega)]
theorem pd{l:List (Str × Nat)}{ms:List M}{bad:List Int}(hb:l.length≤ms.length):∀i,i≤l.length→(cJ l ms bad i).length=fq (l.take i)
 | 0,_=>rfl
 | i+1,hi=>by
   have h1:l[i]? =some l[i]:=List.getElem?_eq_getElem (by omega)
   have h2:ms[i]? =some ms[i]:=List.getElem?_eq_getElem (by omega)
   unfold cJ
   rw[h1,h2]
   show(fg bad ms[i] l[i].2 (cJ l ms bad i)).length=_
   rw[fK,pd hb i (by omega),List.take_add_one,h1]
   unfold fq
   simp only[Option.toList_some,List.map_append,List.sum_append,List.map_cons,List.map_nil,List.sum_cons,List.sum_nil]
   omega
theorem pU(b:M):∀m ws n,n < ws.length→gm (fg [] b m ws) n=gm ws n
 | 0,ws,n,h=>rfl
 | m+1,ws,n,h=>by unfold fg;rw [mQ (by rw[fK];omega)];exact pU b m ws n h
theorem pY(b:M):∀m ws n,ws.length≤n→n < ws.length+m→gm (fg [] b m ws) n=b
 | 0,ws,n,h,h2=>by omega
 | m+1,ws,n,h,h2=>by
   have hl:=fK [] b m ws
   unfold fg
   by_cases q:n < ws.length+m
   ·rw[mQ (by omega)];exact pY b m ws n h q
   ·rw[show n=(fg [] b m ws).length by omega,ng]
    funext p
    simp
structure Am (l:List (Str × Nat)) (ks:List Int):Prop where
 len:ks.length=fq l
 v:∀n,n < ks.length→∃j:Nat,j < l.length∧ks.getD n 0=(j:Int)∧∀ms:List M,l.length≤ms.length→gm (cJ l ms [] l.length) n=ms.getD j fun _=>false
theorem Am.nil:Am [] []:=⟨rfl,fun n h=>by simp at h⟩
theorem iz{ks:List Int}{xs:List Int}{n:Nat}(h:n < ks.length):(ks++xs).getD n 0=ks.getD n 0:=by rw[List.getD_eq_getElem?_getD,List.getElem?_append_left h,List.getD_eq_getElem?_getD]
theorem Am.add{l:List (Str × Nat)}{ks:List Int}(h:Am l ks)(s:Str)(w:Nat):Am (l++[(s,w)]) (ks++List.replicate w (l.length:Int)):=by
 have hw:fq (l++[(s,w)])=fq l+w:=by simp [fq]
 refine⟨by rw[List.length_append,List.length_replicate,h.len,hw],fun n hn=>?_⟩
 rw[List.length_append,List.length_replicate] at hn
 have step:∀ms:List M,(l++[(s,w)]).length≤ms.length→cJ (l++[(s,w)]) ms [] (l++[(s,w)]).length=fg [] (ms.getD l.length fun _=>false) w (cJ l ms [] l.length)∧(cJ l ms [] l.length).length=ks.length:=fun ms hms=>by
  rw[List.length_append] at hms ⊢
  have hms:l.length < ms.length:=hms
  refine⟨?_,by rw[pd (by omega) _ (Nat.le_refl _),List.take_length,h.len]⟩
  show cJ (l++[(s,w)]) ms [] (l.length+1)=_
  conv=>lhs;unfold cJ
  rw[List.getElem?_append_right (Nat.le_refl _),Nat.sub_self,List.getElem?_eq_getElem hms,rF _ (Nat.le_refl _),List.getD_eq_getElem?_getD,List.getElem?_eq_getElem hms]
  rfl
 by_cases q:n < ks.length
 ·obtain⟨j,hj,hk,hv⟩:=h.v n q
  refine⟨j,by rw[List.length_append];omega,by rw[iz q];exact hk,fun ms hms=>?_⟩
  obtain⟨e1,e2⟩:=step ms hms
  rw[e1,pU _ _ _ _ (by omega)]
  exact hv ms (by rw[List.length_append] at hms;omega)
 ·refine⟨l.length,by rw[List.length_append];simp,?_,fun ms hms=>?_⟩
  ·rw[List.getD_eq_getElem?_getD,List.getElem?_append_right (by omega),List.getElem?_replicate,if_pos (by omega)];rfl
  ·obtain⟨e1,e2⟩:=step ms hms
   rw[e1,pY _ _ _ _ (by omega) (by omega)]
structure KI (l:List (Str × Nat)) (gs:List Gt) (ks:List Int):Prop where
 len:ks.length=fq l+gs.length
 b:∀n,n < ks.length→ks.getD n 0 < (ks.length:Int)+10
 v:∀ms:List M,ms.length=l.length→∀p n n',n < ks.length→n' < ks.length→ks.getD n 0=ks.getD n' 0→pv l gs ms p n=pv l gs ms p n'
theorem Am.ki{l:List (Str × Nat)}{ks:List Int}(h:Am l ks)(hl:l.length≤9):KI l [] ks:=by
 refine⟨by rw[h.len];rfl,fun n hn=>?_,fun ms hms p n n' hn hn' e=>?_⟩
 ·obtain⟨j,hj,hk,_⟩:=h.v n hn
  rw[hk];omega
 ·obtain⟨j,hj,hk,hv⟩:=h.v n hn
  obtain⟨j',hj',hk',hv'⟩:=h.v n' hn'
  have:j=j':=by rw[hk,hk'] at e;omega
  subst this
  show gm (cJ l ms [] l.length) n p=gm (cJ l ms [] l.length) n' p
  rw[hv ms (by omega),hv' ms (by omega)]
section
variable {l:List (Str × Nat)} {gs:List Gt} {g:Gt} {ms:List M} {p n:Nat} {ks:List Int}
theorem yz(hms:ms.length=l.length):(cJ l ms [] l.length).length=fq l:=by rw[k6 hms _ (Nat.le_refl _),List.take_length]
theorem zP(hms:ms.length=l.length)(hn:n < fq l+gs.length):pv l (gs++[g]) ms p n=pv l gs ms p n:=by
 have h0:=yz hms
 unfold pv
 rw[mX (gs:=gs++[g]) (i:=gs.length) (by rw[List.length_append];omega) (Nat.le_refl _) (by omega),uU _ (Nat.le_refl _)]
theorem B0{i:Nat}(hms:ms.length=l.length)(h:gs[i]? =some g)(hg:kz (fq l+i) g):pv l gs ms p (fq l+i)=gv g.1 (g.2.1.map (pv l gs ms p)):=by
 have h0:=yz hms
 have hi:=(List.getElem?_eq_some_iff.mp h).1
 unfold pv
 rw[mX (i:=i+1) (by omega) (Nat.le_refl _) (by omega)]
 conv=>lhs;unfold j0
 rw[h]
 show gm (j0 gs [] (cJ l ms [] l.length) i++[fun p=>gF g (j0 gs [] (cJ l ms [] l.length) i) p !=false]) (fq l+i) p=_
 have hl:=kR (gs:=gs) (turned:=[]) (w0:=cJ l ms [] l.length) i (by omega)
 rw[show fq l+i=(j0 gs [] (cJ l ms [] l.length) i).length by omega,ng]
 show(gv g.1 (g.2.1.map fun n=>gm (j0 gs [] (cJ l ms [] l.length) i) n p) !=false)=_
 have:g.2.1.map (fun n=>gm (j0 gs [] (cJ l ms [] l.length) i) n p)=g.2.1.map fun n=>gm (j0 gs [] (cJ l ms [] l.length) gs.length) n p:=List.map_congr_left fun z hz=>by
  rw[mX (j:=gs.length) (i:=i) (by omega) (Nat.le_refl _) (by have:=hg.2.2 z hz;omega)]
 rw[this]
 simp
theorem zj{f:Nat→Bool}{ks:List Int}{N:Nat}(hf:∀a b,a < N→b < N→ks.getD a 0=ks.getD b 0→f a=f b):∀{u v:List Nat},(∀x∈u,x < N)→(∀x∈v,x < N)→u.map (ks.getD · 0)=v.map (ks.getD · 0)→u.map f=v.map f
 | [],[],_,_,_=>rfl
 | [],_ ::_,_,_,h=>by simp at h
 | _ ::_,[],_,_,h=>by simp at h
 | a ::u,b ::v,h1,h2,h=>by
   rw[List.map_cons,List.map_cons] at h
   obtain⟨e1,e2⟩:=List.cons.inj h
   rw[List.map_cons,List.map_cons,hf a b (h1 a List.mem_cons_self) (h2 b List.mem_cons_self) e1,zj hf (fun x hx=>h1 x (List.mem_cons_of_mem _ hx)) (fun x hx=>h2 x (List.mem_cons_of_mem _ hx)) e2]
theorem KI.add{x:Int}(h:KI l gs ks)(hgs:∀(i:Nat) (g:Gt),gs[i]? =some g→kz (fq l+i) g)(hg:kz ks.length g)
 (hx:x=(ks.length:Int)+10∨∃pl g0,gs[pl]? =some g0∧x=ks.getD (fq l+pl) 0∧g.1=g0.1∧g.2.1.map (ks.getD · 0)=g0.2.1.map (ks.getD · 0)):KI l (gs++[g]) (ks++[x]):=by
 have hl:=h.len
 have hlast:(ks++[x]).getD ks.length 0=x:=by rw[List.getD_eq_getElem?_getD,List.getElem?_append_right (Nat.le_refl _),Nat.sub_self];rfl
 have hll:(ks++[x]).length=ks.length+1:=by simp
 refine⟨by rw[hll,hl,List.length_append];rfl,fun n hn=>?_,?_⟩
 ·rw[hll] at hn ⊢
  by_cases q:n < ks.length
  ·rw[iz q];have:=h.b n q;omega
  ·rw[show n=ks.length by omega,hlast]
   rcases hx with rfl | ⟨pl,g0,h0,rfl,_⟩
   ·omega
   ·have:=h.b (fq l+pl) (by have:=(List.getElem?_eq_some_iff.mp h0).1;omega);omega
 ·intro ms hms p
  have new:∀pl g0,gs[pl]? =some g0→x=ks.getD (fq l+pl) 0→g.1=g0.1→g.2.1.map (ks.getD · 0)=g0.2.1.map (ks.getD · 0)→pv l (gs++[g]) ms p ks.length=pv l gs ms p (fq l+pl):=fun pl g0 h0 _ e1 e2=>by
   have hpl:=(List.getElem?_eq_some_iff.mp h0).1
   have hgat:(gs++[g])[gs.length]? =some g:=by rw[List.getElem?_append_right (Nat.le_refl _),Nat.sub_self];rfl
   rw[hl,B0 hms hgat (by rw[←hl];exact hg),B0 hms h0 (hgs pl g0 h0),e1]
   have e3:g.2.1.map (pv l (gs++[g]) ms p)=g.2.1.map (pv l gs ms p):=List.map_congr_left fun z hz=>zP hms (by have:=hg.2.2 z hz;omega)
   rw[e3]
   congr 1
   exact zj (N:=ks.length) (fun a b ha hb e=>h.v ms hms p a b ha hb e) hg.2.2 (fun z hz=>by have:=(hgs pl g0 h0).2.2 z hz;omega) e2
  have old:∀n,n < ks.length→pv l (gs++[g]) ms p n=pv l gs ms p n:=fun n hn=>zP hms (by omega)
  have mix:∀n,n < ks.length→ks.getD n 0=x→pv l (gs++[g]) ms p n=pv l (gs++[g]) ms p ks.length:=fun n hn e=>by
   rcases hx with rfl | ⟨pl,g0,h0,hx,e1,e2⟩
   ·have:=h.b n hn;omega
   ·rw[new pl g0 h0 hx e1 e2,old n hn]
    exact h.v ms hms p n _ hn (by have:=(List.getElem?_eq_some_iff.mp h0).1;omega) (e.trans hx)
  intro n n' hn hn' e
  rw[hll] at hn hn'
  by_cases q:n < ks.length
  ·rw[iz q] at e
   by_cases q':n' < ks.length
   ·rw[iz q'] at e
    rw[old n q,old n' q']
    exact h.v ms hms p n n' q q' e
   ·have en':n'=ks.length:=by omega
    subst en'
    rw[hlast] at e
    exact mix n q e
  ·have en:n=ks.length:=by omega
   subst en
   by_cases q':n' < ks.length
   ·rw[iz q',hlast] at e
    exact(mix n' q' e.symm).symm
   ·rw[show n'=ks.length by omega]
end
end K13
end
section
set_option maxRecDepth 100000
set_option maxHeartbeats 4000000
namespace K13
open PySem PySem.Spec PyProof.Rows L2 L3 MT
theorem yJ{mi ms:Int}{S:aJ}{k:Nat}{cs:List Int}(p:mv k S)(hcs:cs.length < 1000)(hmi:1≤mi∧mi≤6){Q:V3→aJ→Prop}
 (h:∀(l:List (Str × Nat)) (gs:List Gt) (os:List (Str × List Nat)) S1,(∀x∈l,1≤x.2∧x.2≤3)→1≤l.length→l.length≤6→gs.length=cs.length→(∀(i:Nat) (g:Gt),gs[i]? =some g→kz (fq l+i) g)→1≤os.length→os.length < 100→(∀x∈os,(1≤x.2.length∧x.2.length≤3)∧(∀w∈x.2,w < fq l+gs.length)∧∀a b,x.2=[a,b]→∀ms,ms.length=l.length→∀p,pv l gs ms p a=pv l gs ms p b)→Ev k S S1→Q (.d (cN l gs os)) S1) :
 W3 (i4 [.loc k, .d (.lst (cs.map .int)), .d (.int mi), .d (.int ms)] S) Q:=by
 have hz:sizeLine=16777216:=sizeLine_eq
 have hk:=p.lt
 unfold i4
 refine mZ (qe rfl ?_)
 simp only[bx,j1,List.map_cons,List.map_nil,List.length_cons,List.length_nil,List.replicate,List.cons_append,List.nil_append,Nat.reduceAdd,Nat.reduceSub]
 unfold lV
 refine aQ <| br (by simp only[List.length_cons,List.length_nil,List.length_set];omega) <| cG <| aD <| w_var (v:= .loc k) rfl <| aD <| cQ (d:= .int 8) rfl <| cn <| zK (m:=8) p (by omega) fun ss S1 hss v1=>⟨_,rfl,?_⟩
 simp only[List.set_cons_succ,List.set_cons_zero]
 have l1:=v1.len
 refine aQ <| br (by simp only[List.length_cons,List.length_nil,List.length_set];omega) <| ie (ds:=[]) rfl ⟨_,rfl,?_⟩
 simp only[List.set_cons_succ,List.set_cons_zero]
 refine aQ <| br (by simp only[List.length_cons,List.length_nil,List.length_set];omega) <| ie (ds:=[]) rfl ⟨_,rfl,?_⟩
 simp only[List.set_cons_succ,List.set_cons_zero]
 rw[l1,show(S1++[SO.lst []]).length=S.length+1 by simp [l1]]
 have E0:IS k S.length (S.length+1) [] [] S (S1++[.lst []]++[.lst []]):=by
  refine⟨(v1.p.push []).push [],by simp [l1],fun j hj hk=>by rw[List.getElem?_append_left (by simp;omega),List.getElem?_append_left (by omega)];exact v1.oth j hk,?_,?_,by omega⟩
  ·rw[List.getElem?_append_left (by simp;omega),←l1];exact bh _ _
  ·have:=bh (S1++[SO.lst []]) (SO.lst [])
   rw[show(S1++[SO.lst []]).length=S.length+1 by simp [l1]] at this
   exact this
 refine aQ <| gz <| lQ <| xv <| cQ (d:= .int 1) rfl <| draw (k:=k) rfl E0.p rfl (by omega) (by omega) fun r S2 h1 h2 v2=>⟨_,_, .int ((1+r).toNat:Nat),rfl,rfl,by rw[Int.toNat_of_nonneg (by omega)];rfl,(1+r).toNat,rfl,by omega,?_⟩
 have E2:IS k S.length (S.length+1) [] [] S S2:=⟨v2.p,by rw[v2.len];exact E0.len,fun j hj hk=>(v2.oth j hk).trans (E0.oth j hj hk),by rw[v2.oth _ (by omega)];exact E0.ea,by rw[v2.oth _ (by omega)];exact E0.eb,by omega⟩
 refine(cc (fun i δ S3=>∃b a7 a8,δ=iE mi ms k S.length b (.lst (cs.map .int)) ss a7 a8∧∃(l:List (Str × Nat)) (ks:List Int),l.length=i∧(∀x∈l,1≤x.2∧x.2≤3)∧ks.length=fq l∧fq l≤3*i∧i≤fq l∧Am l ks∧IS k S.length b l ks S S3)
  ⟨S.length+1,_,_,rfl,[],[],rfl,by simp,rfl,by simp [fq],by omega,Am.nil,E2⟩ ?_).mono fun o S3 ⟨δ3,e3,b,a7,a8,hδ,l,ks,hl,hlw,hks,hw3,hw1,hKn,E3⟩=>⟨δ3,e3,?_⟩
 ·rintro i v δ S3 hv ⟨b,a7,a8,rfl,l,ks,hl,hlw,hks,hw3,hw1,hKn,E3⟩
  rw[List.getElem?_map] at hv
  cases qq:(bZ 0 (1+r).toNat)[i]? with
  | none=>rw [qq] at hv;cases hv
  | some d0=>
    rw[qq] at hv
    obtain⟨hi,rfl⟩:=lE qq
    cases hv
    refine⟨iE mi ms k S.length b (.lst (cs.map .int)) ss (some (.d (nI i))) a8,rfl,?_⟩
    refine(Av hk rfl hss (by omega) (by omega) (by omega) E3).mono fun o S4 ⟨δ4,e4,b',a8',h4,s,w,hw1',hw3',E4⟩=>⟨δ4,e4,b',_,a8',h4,l++[(s,w)],ks++List.replicate w (i:Int),by simp [hl],?_,?_,?_,?_,by rw[←hl];exact hKn.add s w,E4⟩
    ·intro x hx
     rcases List.mem_append.mp hx with z | z
     ·exact hlw x z
     ·rw[List.mem_singleton] at z;subst z;exact⟨hw1',hw3'⟩
    ·rw[List.length_append,List.length_replicate,hks];simp [fq]
    ·have:fq (l++[(s,w)])=fq l+w:=by simp [fq]
     omega
    ·have:fq (l++[(s,w)])=fq l+w:=by simp [fq]
     omega
 have hrl:((bZ 0 (1+r).toNat).map V3.d).length=(1+r).toNat:=by simp [bZ]
 rw[hrl] at hl hw3 hw1
 subst hδ
 unfold iE
 refine aQ <| br (by simp only[List.length_cons,List.length_nil,List.length_set];omega) <| qQ (d:=nI (fq l)) ?_ rfl ⟨_,rfl,?_⟩
 ·refine(ib E3.eb rfl).trans ?_
  rw[hks];rfl
 simp only[List.set_cons_succ,List.set_cons_zero]
 refine aQ <| br (by simp only[List.length_cons,List.length_nil,List.length_set];omega) <| ie (ds:=[]) rfl ⟨_,rfl,?_⟩
 simp only[List.set_cons_succ,List.set_cons_zero]
 have hE3:=E3.len
 have la:S.length < S3.length:=(List.getElem?_eq_some_iff.mp E3.ea).1
 have lb:b < S3.length:=(List.getElem?_eq_some_iff.mp E3.eb).1
 have hbS:=E3.hb
 have N0:NS k S.length b S3.length l ks ([]:List Gt) S (S3++[.lst []]):=⟨E3.p.push [],by simp;omega,fun j hj hk=>by rw[List.getElem?_append_left (by omega)];exact E3.oth j hj hk,by rw[List.getElem?_append_left la];exact E3.ea,by rw[List.getElem?_append_left lb];exact E3.eb,bh _ _⟩
 refine aQ <| gz <| kN (ds:=cs.map .int) rfl ?_
 refine(cc (fun i δ S4=>(∃b11 b12 b13,δ=nE mi ms k S.length b S3.length (fq l) (.lst (cs.map .int)) ss a7 a8 b11 b12 b13)∧∃(ks:List Int) (gs:List Gt),gs.length=i∧ks.length=fq l+gs.length∧(∀(i:Nat) (g:Gt),gs[i]? =some g→kz (fq l+i) g)∧KI l gs ks∧NS k S.length b S3.length l ks gs S S4)
  ⟨⟨_,_,_,rfl⟩,ks,[],rfl,by simp [hks],by simp,hKn.ki (by omega),N0⟩ ?_).mono fun o S4 ⟨δ4,e4,⟨b11,b12,b13,hδ⟩,ks,gs,hgl,hkn,hgs,hKI,N4⟩=>⟨δ4,e4,?_⟩
 ·rintro i v δ S4 hv ⟨⟨b11,b12,b13,rfl⟩,ks,gs,hgl,hkn,hgs,hKI,N4⟩
  have hi:i < 1000:=by
   have:=(List.getElem?_eq_some_iff.mp hv).1
   rw[List.length_map,List.length_map] at this
   omega
  obtain⟨d0,hd0,rfl⟩:=List.mem_map.mp (List.mem_of_getElem? hv)
  obtain⟨c,_,rfl⟩:=List.mem_map.mp hd0
  refine⟨nE mi ms k S.length b S3.length (fq l) (.lst (cs.map .int)) ss a7 a8 (some (.d (.int c))) b12 b13,rfl,?_⟩
  refine(xK hk (by omega) (by omega) (by omega) (by omega) (by omega) (by omega) (by omega) hkn (by omega) hgs N4).mono fun o S5 ⟨δ5,e5,h5,g,x,hg,hgx,N5⟩=>⟨δ5,e5,h5,ks++[x],gs++[g],by simp [hgl],by simp [hkn];omega,?_,hKI.add hgs hg hgx,N5⟩
  intro j g' hj
  by_cases hjl:j < gs.length
  ·rw[List.getElem?_append_left hjl] at hj;exact hgs j g' hj
  ·rw[List.getElem?_append_right (by omega)] at hj
   have h0:j - gs.length=0:=by
    have:=(List.getElem?_eq_some_iff.mp hj).1
    simp at this;omega
   rw[h0] at hj
   cases hj
   rw[show fq l+j=ks.length by omega]
   exact hg
 rw[List.length_map,List.length_map] at hgl
 subst hδ
 unfold nE
 refine eG <| zD <| aD <| w_var (v:= .loc S.length) rfl <| aD <| w_var (v:= .loc S3.length) rfl <| aD <| cG <| aD <| w_var (v:= .loc k) rfl <| aD <| w_var (v:= .loc b) rfl <| aD <| cQ (d:= .lst (ss.map .str)) rfl <| aD <| cQ (d:= .int 6) rfl <| cn <| wO N4.p (by omega) N4.eb (by omega) (by omega) hss fun os S5 hol1 hol hos v5=>cn ⟨by simp;omega,_,rfl,?_⟩
 have ea5:S5[S.length]? =some (.lst (l.map MT.inD)):=by rw[v5.oth _ (by omega)];exact N4.ea
 have ec5:S5[S3.length]? =some (.lst (gs.map gW)):=by rw[v5.oth _ (by omega)];exact N4.ec
 have hl5:=v5.len
 have hN4:=N4.len
 refine⟨v5.p.1,?_,cN l gs os,?_,?_⟩
 ·show d8 S.length (.tup [.loc S.length, .loc S3.length, .d (.lst (os.map uq))])=true
  simp [d8,ix];omega
 ·show res S5 (.tup [.loc S.length, .loc S3.length, .d (.lst (os.map uq))])=_
  simp [res,jl,ea5,ec5,cN]
 ·refine h l gs os _ hlw (by omega) (by omega) (by omega) hgs hol1 hol (fun x hx=>⟨(hos x hx).1,by have:=(hos x hx).2.1;rw [hkn] at this;exact this,fun a b hab ms hms p=>hKI.v ms hms p a b ((hos x hx).2.1 a (by rw[hab];simp)) ((hos x hx).2.1 b (by rw[hab];simp)) ((hos x hx).2.2 a b hab)⟩) ⟨⟨v5.p.1.take _,?_⟩,by rw[List.length_take];omega,fun j hj=>?_⟩
  ·obtain⟨_,x,c,e⟩:=v5.p
   exact⟨x,c,by rw[List.getElem?_take_of_lt hk];exact e⟩
  ·by_cases hjl:j < S.length
   ·rw[List.getElem?_take_of_lt hjl,v5.oth j hj,N4.oth j hjl hj]
   ·rw[List.getElem?_eq_none (by rw[List.length_take];omega),List.getElem?_eq_none (by omega)]
end K13
end
section
set_option maxRecDepth 100000
set_option maxHeartbeats 4000000
namespace K13
open PySem PySem.Spec PyProof.Rows L2 L3 MT
noncomputable abbrev f0:M:=fun _=>false
theorem yM{ws:List M}{b:M}{n:Nat}:gm (ws++[b]) n=if n < ws.length then gm ws n else if n=ws.length then b else f0:=by
 by_cases q:n < ws.length
 ·rw[if_pos q,mQ q]
 ·rw[if_neg q]
  by_cases r:n=ws.length
  ·rw[if_pos r,r,ng]
  ·rw[if_neg r]
   unfold gm
   rw[List.getD_eq_getElem?_getD,List.getElem?_eq_none (by simp;omega)];rfl
section
variable {ins:List (Str × Nat)} {gs:List Gt} {ms ms':List M} {t bad:List Int} {p q:Nat}
noncomputable def sC(p q:Nat)(ws ws':List M):Prop:=ws.length=ws'.length∧∀n,gm ws n p=gm ws' n q
theorem sC.app{ws ws':List M}{b b':M}(h:sC p q ws ws')(hb:b p=b' q):sC p q (ws++[b]) (ws'++[b']):=by
 refine⟨by rw[List.length_append,List.length_append,h.1];rfl,fun n=>?_⟩
 rw[yM,yM,h.1]
 by_cases r:n < ws'.length
 ·rw[if_pos r,if_pos r];exact h.2 n
 ·rw[if_neg r,if_neg r]
  by_cases r2:n=ws'.length
  ·rw[if_pos r2,if_pos r2];exact hb
  ·rw[if_neg r2,if_neg r2]
theorem sC.row{b b':M}(hb:b p=b' q):∀m {ws ws':List M},sC p q ws ws'→sC p q (fg bad b m ws) (fg bad b' m ws')
 | 0,ws,ws',h=>h
 | m+1,ws,ws',h=>by
   have ih:=sC.row hb m h
   unfold fg
   refine ih.app ?_
   rw[hb,ih.1]
theorem sC.HD(h1:ms.length=ins.length)(h2:ms'.length=ins.length)(h:∀j,j < ins.length→ms.getD j f0 p=ms'.getD j f0 q):∀i,i≤ins.length→sC p q (cJ ins ms bad i) (cJ ins ms' bad i)
 | 0,_=>⟨rfl,fun n=>rfl⟩
 | i+1,hi=>by
   have e1:ms[i]? =some ms[i]:=List.getElem?_eq_getElem (by omega)
   have e2:ms'[i]? =some ms'[i]:=List.getElem?_eq_getElem (by omega)
   have hh:=h i (by omega)
   rw[List.getD_eq_getElem?_getD,e1,List.getD_eq_getElem?_getD,e2] at hh
   unfold cJ
   rw[List.getElem?_eq_getElem (by omega:i < ins.length),e1,e2]
   exact sC.row hh _ (sC.HD h1 h2 h i (by omega))
theorem sC.BE{w0 w0':List M}(h:sC p q w0 w0'):∀i,i≤gs.length→sC p q (j0 gs t w0 i) (j0 gs t w0' i)
 | 0,_=>h
 | i+1,hi=>by
   have ih:=sC.BE h i (by omega)
   unfold j0
   rw[List.getElem?_eq_getElem (by omega:i < gs.length)]
   refine ih.app ?_
   show(gF gs[i] (j0 gs t w0 i) p !=t.contains (i:Int))=(gF gs[i] (j0 gs t w0' i) q !=t.contains (i:Int))
   unfold gF
   have:(gs[i].2.1.map fun n=>gm (j0 gs t w0 i) n p)=gs[i].2.1.map fun n=>gm (j0 gs t w0' i) n q:=List.map_congr_left fun n _=>ih.2 n
   rw[this]
theorem Fq(h1:ms.length=ins.length)(h2:ms'.length=ins.length)(h:∀j,j < ins.length→ms.getD j f0 p=ms'.getD j f0 q)(n:Nat):gm (mD ins gs ms t bad) n p=gm (mD ins gs ms' t bad) n q:=
 (sC.BE (sC.HD h1 h2 h _ (Nat.le_refl _)) _ (Nat.le_refl _)).2 n
end
noncomputable def cM(b:Bool):M:=fun _=>b
theorem IT(f:M):mI 1 f=bI (f 0):=by
 unfold mI bI fX fX
 cases f 0 <;> rfl
theorem Gs(b:Bool):mI 1 (cM b)=bI b:=IT _
theorem DD(bits:List Bool):bits.map bI=(bits.map cM).map (mI 1):=by
 rw[List.map_map]
 exact List.map_congr_left fun b _=>(Gs b).symm
section
variable {c:Nat} {ins:List (Str × Nat)} {gs:List Gt} {os:List (Str × List Nat)} {S:aJ} {T:List Int}
theorem Co{bits:List Bool}{p n:Nat}(hc:ins.length=c)(hp:(cv c)[p]? =some bits):gm (mD ins gs (bits.map cM) T []) n 0=gm (Wd c ins gs T []) n p:=by
 have hbl:=jT c bits (List.mem_of_getElem? hp)
 refine Fq (by rw[List.length_map,hbl,hc]) (by rw[oe,hc]) (fun j hj=>?_) n
 rw[hc] at hj
 unfold oM
 rw[List.getD_eq_getElem?_getD,List.getElem?_map,List.getElem?_eq_getElem (by omega:j < bits.length),List.getD_eq_getElem?_getD,List.getElem?_map,List.getElem?_range hj]
 show bits[j]=FH c j p
 unfold FH
 rw[List.getD_eq_getElem?_getD (l:=cv c),hp]
 show _=bits.getD j false
 rw[List.getD_eq_getElem?_getD,List.getElem?_eq_getElem (by omega:j < bits.length)]
 rfl
noncomputable def tD(r:Bool × Bool):D:=if r.1 then .int 0 else if r.2 then .int 1 else .cD
theorem n5{N p:Nat}{f g:M}(hp:p < N):eJ [.tup [mI N f,mI N g], .int p]= .ok (tD (f p,g p)):=by
 unfold eJ pJ tD
 have b0:b2 ik (aK eT (au (e2 cw (ai 0) (eC (.int 0))) (au (ai 1) aI))) (eC (.int 1)) (cz ij [.tup [mI N f,mI N g], .int p])= .ok (f p):=by
  refine iB (a:= .int (if decide (p < N) && f p then 1 else 0)) (b:= .int 1) (aO (ds:=[mI N f, .int (p:Nat)]) (aR (aG (a:= .tup [mI N f,mI N g]) (b:= .int 0) rfl rfl yt) rfl) xm) rfl ?_
  rw[decide_eq_true hp]
  cases f p <;> rfl
 have b1:b2 ik (aK eT (au (e2 cw (ai 0) (eC (.int 1))) (au (ai 1) aI))) (eC (.int 1)) (cz ij [.tup [mI N f,mI N g], .int p])= .ok (g p):=by
  refine iB (a:= .int (if decide (p < N) && g p then 1 else 0)) (b:= .int 1) (aO (ds:=[mI N g, .int (p:Nat)]) (aR (aG (a:= .tup [mI N f,mI N g]) (b:= .int 1) rfl rfl AF) rfl) xm) rfl ?_
  rw[decide_eq_true hp]
  cases g p <;> rfl
 show mH ij _ _= .ok (if f p then _ else if g p then _ else _)
 cases q0:f p with
 | true=>rw [q0] at b0;exact c9 (NT.iU (mj b0 (cB rfl)))
 | false=>
   rw[q0] at b0
   cases q1:g p with
   | true=>rw [q1] at b1;exact c9 (bS (fZ b0 rfl) (NT.iU (mj b1 (cB rfl))))
   | false=>rw [q1] at b1;exact c9 (bS (fZ b0 rfl) (bS (fZ b1 rfl) (cB rfl)))
theorem AK{xs:List M}(h:1≤xs.length∧xs.length≤3):lH [.tup (xs.map (mI 1))]= .ok (tD (A9 (xs.map (· 0)))):=by
 unfold lH yD
 exact c9 (cB (aO (ds:=[.tup [mI 1 (r0 xs),mI 1 (r1 xs)], .int 0]) (aR (aO (ds:=[.tup (xs.map (mI 1)),mI 1 one]) rfl (nQ h)) rfl) (n5 (p:=0) (by omega))))
theorem CK{bits:List Bool}{bad:List Int}(NO:jj ins gs os)(hb:bits.length=ins.length)(hS:qw S){Q:V3→aJ→Prop}(h:Q (.d (.lst (gE 1 os (mD ins gs (bits.map cM) T bad)))) S) :
 W3 (nJ [.d (cN ins gs os), .d (.tup (bits.map bI)), .d (.tup (T.map .int)), .d (.tup (bad.map .int))] S) Q:=by
 have hl:(bits.map cM).length=ins.length:=by rw[List.length_map,hb]
 unfold nJ
 refine ka hS (qe rfl ?_)
 simp only[bx,vE,List.map_cons,List.map_nil,List.length_cons,List.length_nil,List.replicate,List.cons_append,List.nil_append,Nat.reduceAdd,Nat.reduceSub]
 unfold zm
 refine eG <| cG <| aD <| cQ (d:=cN ins gs os) rfl <| aD <| cG <| aD <| cQ (d:=cN ins gs os) rfl <| aD <| cQ (d:= .tup (bits.map bI)) rfl <| aD <| cQ (d:=mI 1 one) rfl <| aD <| cQ (d:= .tup (T.map .int)) rfl <| aD <| cQ (d:= .tup (bad.map .int)) rfl <| cn <| rT (bits:=bits.map cM) (.inr (by rw[DD])) NO hl hS <| cn ?_
 refine vA NO.ho (fun x hx=>⟨(NO.o x hx).1,fun w hw=>by rw[rC hl];exact(NO.o x hx).2 w hw⟩) hS ?_
 exact⟨_,rfl,by unfold d8;rfl,⟨[],by simp⟩,_,by unfold res;rfl,h⟩
noncomputable def RD(c:Nat)(ins:List (Str × Nat))(gs:List Gt)(os:List (Str × List Nat))(T:List Int)(p:Nat):List D:=os.map fun x=>tD (pt (Wd c ins gs T []) x p)
theorem vZ{k:Nat}{nt:D}{f g:M}(hc:c≤10)(hS:qw S)(hb:S[k]? =some (.ins 0 (cP c nt))){Q:V3→aJ→Prop}(h:Q (.d (.lst ((List.range (2 ^ c)).map fun p=>tD (f p,g p)))) S) :
 W3 (dy [.loc k, .d (.tup [mI (2 ^ c) f,mI (2 ^ c) g])] S) Q:=by
 have hz:sizeLine=16777216:=sizeLine_eq
 have hp:2 ^ c≤1024:=Nat.pow_le_pow_right (by omega) hc
 unfold dy
 refine ka hS (qe rfl ?_)
 simp only[bx,dJ,List.map_cons,List.map_nil,List.length_cons,List.length_nil,List.replicate,List.cons_append,List.nil_append,Nat.reduceAdd,Nat.reduceSub]
 unfold gr
 refine eG <| gM (fun j ds S2=>S2=S∧ds=(List.range j).map fun p=>tD (f p,g p)) ?_
 refine lQ <| w_fld (k:=k) <| w_var (v:= .loc k) rfl ⟨_,_,rfl,hb,Ag,2 ^ c,rfl,by omega,?_⟩
 have hlen:((bZ 0 (2 ^ c)).map V3.d).length=2 ^ c:=by simp [bZ]
 rw[hlen]
 refine⟨by omega,⟨rfl,rfl⟩,?_,?_⟩
 ·rintro j v ds S2 hv ⟨rfl,rfl⟩
  obtain⟨hj,rfl⟩:=NT.lE hv
  refine⟨[some (.d (.int j)),some (.d (.tup [mI (2 ^ c) f,mI (2 ^ c) g]))],rfl,lZ ?_⟩
  rw[if_pos rfl,List.range_succ,List.map_append]
  exact cQ (d:=tD (f j,g j)) (aO (ds:=[.tup [mI (2 ^ c) f,mI (2 ^ c) g], .int j]) rfl (n5 hj)) ⟨_,rfl,rfl,rfl⟩
 ·rintro ds S2 ⟨rfl,rfl⟩
  exact⟨_,rfl,by unfold d8;rfl,⟨[],by simp⟩,_,by unfold res;rfl,h⟩
noncomputable def oR(c:Nat)(ins:List (Str × Nat))(gs:List Gt)(os:List (Str × List Nat)):D:= .lst (os.map fun x=> .lst ((List.range (2 ^ c)).map fun p=>tD (pt (Wd c ins gs [] []) x p)))
theorem ko(NO:jj ins gs os)(hc:ins.length=c)(hc1:c≤10)(ho:∀x∈os,1≤x.2.length∧x.2.length≤3)(hS:qw S){Q:V3→aJ→Prop}(h:Q (.d (oR c ins gs os)) S) :
 W3 (fF [.d (cN ins gs os)] S) Q:=by
 have hz:sizeLine=16777216:=sizeLine_eq
 have hO:=NO.ho
 unfold fF
 refine ka hS (qe rfl ?_)
 simp only[bx,ig,List.map_cons,List.map_nil,List.length_cons,List.length_nil,List.replicate,List.cons_append,List.nil_append,Nat.reduceAdd,Nat.reduceSub]
 unfold lR
 have hc0:∀fs:List (Str × V3),fV (S.length+1) (fs.map (·.2))=true→qw (S++[.ins 0 fs]):=fun fs hf o ho'=>by
  rw[show(S++[SO.ins 0 fs]).length=S.length+1 by simp]
  rcases List.mem_append.mp ho' with q | q
  ·exact lK (by omega) o (hS o q)
  ·rw[List.mem_singleton.mp q];exact hf
 have hb:(S++[SO.ins 0 (cP c (cN ins gs os))])[S.length]? =some (.ins 0 (cP c (cN ins gs os))):=bh _ _
 have hcl:qw (S++[SO.ins 0 (cP c (cN ins gs os))]):=hc0 _ rfl
 refine aQ <| br (by simp only[List.length_cons,List.length_nil,List.length_set];omega) <| yV <| aD <| cQ (d:=cN ins gs os) rfl <| cn <| vF hc hc1 (hc0 _ rfl) ⟨rfl,_,rfl,?_⟩
 simp only[List.set_cons_succ,List.set_cons_zero]
 refine eG <| gM (fun j ds S2=>S2=S++[SO.ins 0 (cP c (cN ins gs os))]∧ds=(os.map fun x=>D.lst ((List.range (2 ^ c)).map fun p=>tD (pt (Wd c ins gs [] []) x p))).take j) ?_
 refine qJ <| qz (k:=S.length) <| w_var (v:= .loc S.length) rfl ⟨_,rfl,hb,Ab _ _ (by decide+kernel) (by decide+kernel) (by decide+kernel) (by decide+kernel),?_⟩
 refine aD <| cQ (d:= .tup (([]:List Int).map .int)) rfl <| cn <| me NO hc ho hcl hb ⟨_,rfl,?_,⟨rfl,by simp⟩,?_,?_⟩
 ·rw[List.length_map,zW,List.length_map];omega
 ·rintro j v ds S2 hv ⟨rfl,rfl⟩
  rw[zW] at hv
  obtain⟨x,hx,rfl⟩:=NT.kJ hv
  refine⟨[some (.d (.tup [mI (2 ^ c) (r0 (tell (Wd c ins gs [] []) x)),mI (2 ^ c) (r1 (tell (Wd c ins gs [] []) x))])),some (.loc S.length)],rfl,lZ ?_⟩
  rw[if_pos rfl]
  refine qz (k:=S.length) <| w_var (v:= .loc S.length) rfl ⟨_,rfl,hb,Ab _ _ (by decide+kernel) (by decide+kernel) (by decide+kernel) (by decide+kernel),?_⟩
  refine aD <| cQ (d:= .tup [mI (2 ^ c) (r0 (tell (Wd c ins gs [] []) x)),mI (2 ^ c) (r1 (tell (Wd c ins gs [] []) x))]) rfl <| cn <| vZ hc1 hcl hb ⟨_,rfl,rfl,?_⟩
  rw[List.take_add_one,List.getElem?_map,hx]
  rfl
 ·rintro ds S2 ⟨rfl,rfl⟩
  rw[List.length_map,zW,List.length_map,List.take_of_length_le (by rw[List.length_map];exact Nat.le_refl _)]
  exact⟨_,rfl,by unfold d8;rfl,⟨_,rfl⟩,_,by unfold res;rfl,h⟩
end
end K13
end
section
set_option maxRecDepth 100000
set_option maxHeartbeats 4000000
namespace K13
open PySem PySem.Spec PyProof.Rows L2 L3 MT
theorem mm(f g:Nat→Int):∀l:List Nat,PyData.eqvAll (f6 (l.map fun p=>D.int (f p))) (f6 (l.map fun p=>D.int (g p)))=l.all fun p=>f p==g p
 | []=>by rw[List.map_nil,List.map_nil];unfold f6 PyData.eqvAll;rfl
 | x ::l=>by
   rw[List.map_cons,List.map_cons,List.all_cons]
   unfold f6 PyData.eqvAll
   rw[mm f g l]
   unfold toPy PyData.eqv
   rfl
theorem yN(f g:Nat→Int)(l:List Nat):zU (.lst (l.map fun p=>D.int (f p))) (.lst (l.map fun p=>D.int (g p)))= .ok (l.all fun p=>f p==g p):=by
 have fit:∀h:Nat→Int,gg 1 (.lst (l.map fun p=>D.int (h p))):=fun h=>gg.lst fun d hd=>by obtain⟨x,_,rfl⟩:=List.mem_map.mp hd;exact gg.int _
 rw[um,(fit f).pl,(fit f).sh (by omega),(fit g).pl,(fit g).sh (by omega)]
 show R.ok (PyData.eqv (toPy (.lst _)) (toPy (.lst _)))=_
 congr 1
 unfold toPy PyData.eqv
 exact mm f g l
noncomputable def lo:Nat→Nat→List Bool
 | 0,_=>[]
 | k+1,p=>p.testBit k ::lo k p
theorem vm:∀c p,lo (c+1) p=lo c (p / 2)++[p.testBit 0]
 | 0,p=>rfl
 | c+1,p=>by
   show p.testBit (c+1) ::lo (c+1) p=(p / 2).testBit c ::lo c (p / 2)++[p.testBit 0]
   rw[vm c p,Nat.testBit_succ]
   rfl
theorem rm{α:Type}(f g:α→α):∀(l:List α) (p:Nat),(l.flatMap fun b=>[f b,g b])[p]? =(l[p / 2]?).map fun b=>if p.testBit 0 then g b else f b
 | [],p=>by simp
 | b ::l,0=>rfl
 | b ::l,1=>rfl
 | b ::l,p+2=>by
   rw[List.flatMap_cons]
   show(f b ::g b ::(l.flatMap fun b=>[f b,g b]))[p+2]? =_
   rw[List.getElem?_cons_succ,List.getElem?_cons_succ,rm f g l p,show(p+2) / 2=p / 2+1 by omega,List.getElem?_cons_succ]
   have:(p+2).testBit 0=p.testBit 0:=by rw[Nat.testBit_zero,Nat.testBit_zero,Nat.add_mod_right]
   rw[this]
theorem qZ:∀c p,p < 2 ^ c→(cv c)[p]? =some (lo c p)
 | 0,p,h=>by
   have:p=0:=by omega
   subst this;rfl
 | c+1,p,h=>by
   unfold cv
   rw[rm (fun b=>b++[false]) (fun b=>b++[true]),qZ c (p / 2) (by rw[Nat.pow_succ] at h;omega),vm]
   show some _=some _
   congr 1
   cases p.testBit 0 <;> rfl
theorem Bm{ds es:List D}(h:ds.length+es.length≤sizeLine):n_ (.tup ds) (.tup es)= .ok (.tup (ds++es)):=bB _ h
theorem uD:∀c p,(lo c p).length=c
 | 0,_=>rfl
 | c+1,p=>by unfold lo;rw [List.length_cons,uD c p]
theorem AX{c p:Nat}(hc:c≤10):fB [nI p,nI c]= .ok (dD (lo c p)):=by
 have hz:sizeLine=16777216:=sizeLine_eq
 unfold fB oA
 refine c9 (bS (iV (d:=dD []) rfl (by simp [cz,kI])) ?_)
 obtain⟨δ1,e1,a3,hδ1⟩:=o9 (t:=cy 3) (body:=i3) (ds:=bZ 0 c)
  (fun i δ=>∃a3,δ=[.val (nI (p / 2 ^ i)), .val (nI c), .val (dD (lo i p)),a3]) (δ:=[.val (nI p), .val (nI c), .val (dD []), .un]) ⟨.un,by simp [lo]⟩ (by
    rintro i d δ hd ⟨a3,rfl⟩
    obtain⟨hi,rfl⟩:=lE hd
    refine⟨[.val (nI (p / 2 ^ (i+1))), .val (nI c), .val (dD (lo (i+1) p)), .val (.int i)],?_,⟨_,rfl⟩⟩
    rw[show cy 3 (.int i) [.val (nI (p / 2 ^ i)), .val (nI c), .val (dD (lo i p)),a3]= .ok [.val (nI (p / 2 ^ i)), .val (nI c), .val (dD (lo i p)), .val (.int i)] from rfl,R.aS]
    unfold i3
    have hb:D.int (((p / 2 ^ i:Nat):Int) % 2)=bI (p.testBit i):=by
     unfold bI
     rw[Nat.testBit_eq_decide_div_mod_eq]
     congr 1
     by_cases q:p / 2 ^ i % 2=1
     ·rw[decide_eq_true q,if_pos rfl];omega
     ·rw[decide_eq_false q,if_neg (by decide)];omega
    refine bS (iV (d:=dD (lo (i+1) p)) (aG (a:= .tup [bI (p.testBit i)]) (b:=dD (lo i p)) (iY (ds:=[bI (p.testBit i)]) (aR (aG (a:=nI (p / 2 ^ i)) (b:= .int 2) rfl rfl ((ql (by omega)).trans (by rw[hb]))) rfl) (by simp;omega)) rfl ?_) (by simp)) ?_
    ·have:=uD i p
     exact Bm (by rw[List.length_map];simp;omega)
    refine iV (d:=nI (p / 2 ^ (i+1))) (aG (a:=nI (p / 2 ^ i)) (b:= .int 2) rfl rfl ((qa (by omega) (by decide)).trans ?_)) (by simp)
    rw[Nat.pow_succ,←Nat.div_div_eq_div_mul]
    rfl)
 refine bS (uO (ds:=bZ 0 c) (f_ (n:=c) rfl (by omega)) e1) ?_
 have hlen:(bZ 0 c).length=c:=by simp [bZ]
 rw[hlen] at hδ1
 subst hδ1
 exact cB rfl
theorem uE{n:Nat}(h:n≤10):xM (.int 1) (nI n)= .ok (nI (2 ^ n)):=by
 unfold xM qi nI
 show R.bF (decide ((0:Int)≤n∧(n:Int) < 1000∧ -1000 < (1:Int)∧(1:Int) < 1000)) (.ok (D.int (1*2 ^ ((n:Int)).toNat)))=_
 rw[bB _ ⟨by omega,by omega,by omega,by omega⟩,Int.toNat_natCast,Int.one_mul]
 congr 2
section
variable {c:Nat} {ins:List (Str × Nat)} {gs:List Gt} {os:List (Str × List Nat)} {S:aJ}
noncomputable def sF(c:Nat)(ins:List (Str × Nat))(gs:List Gt)(x:Str × List Nat):M:=fun p=>(pt (Wd c ins gs [] []) x p).1 || (pt (Wd c ins gs [] []) x p).2
noncomputable def sB(c:Nat)(ins:List (Str × Nat))(gs:List Gt)(x:Str × List Nat):Bool:=decide (fX (2 ^ c) (sF c ins gs x)=fX (2 ^ c) one)
theorem vK{N:Nat}{f:M}:decide (fX N f=fX N one)=(List.range N).all f:=by
 cases h:(List.range N).all f with
 | true=>
   refine decide_eq_true (jU fun i hi=>?_)
   exact List.all_eq_true.mp h i (List.mem_range.mpr hi)
 | false=>
   refine decide_eq_false fun e=>?_
   have:(List.range N).all f=true:=List.all_eq_true.mpr fun i hi=>by
    have b:=fN N f i
    rw[e,fN,decide_eq_true (List.mem_range.mp hi),Bool.true_and,Bool.true_and] at b
    exact b.symm
   rw[h] at this;cases this
theorem Al{N:Nat}{f:M}:ik (mI N f) (mI N one)= .ok (.bl (decide (fX N f=fX N one))):=by
 show R.ok (D.bl (decide ((fX N f:Int)=(fX N one:Int))))=_
 congr 2
 by_cases q:fX N f=fX N one
 ·rw[decide_eq_true q,decide_eq_true (by rw[q])]
 ·rw[decide_eq_false q,decide_eq_false (by omega)]
theorem mh(NO:jj ins gs os)(hc:ins.length=c)(hc1:c≤10)(ho:∀x∈os,1≤x.2.length∧x.2.length≤3)(hS:qw S){Q:V3→aJ→Prop}(h:Q (.d (.bl (os.all (sB c ins gs)))) S) :
 W3 (fP [.d (cN ins gs os)] S) Q:=by
 have hz:sizeLine=16777216:=sizeLine_eq
 have hO:=NO.ho
 unfold fP
 refine ka hS (qe rfl ?_)
 simp only[bx,gA,List.map_cons,List.map_nil,List.length_cons,List.length_nil,List.replicate,List.cons_append,List.nil_append,Nat.reduceAdd,Nat.reduceSub]
 unfold kC
 have hc0:∀fs:List (Str × V3),fV (S.length+1) (fs.map (·.2))=true→qw (S++[.ins 0 fs]):=fun fs hf o ho'=>by
  rw[show(S++[SO.ins 0 fs]).length=S.length+1 by simp]
  rcases List.mem_append.mp ho' with q | q
  ·exact lK (by omega) o (hS o q)
  ·rw[List.mem_singleton.mp q];exact hf
 have hb:(S++[SO.ins 0 (cP c (cN ins gs os))])[S.length]? =some (.ins 0 (cP c (cN ins gs os))):=bh _ _
 have hcl:qw (S++[SO.ins 0 (cP c (cN ins gs os))]):=hc0 _ rfl
 refine aQ <| br (by simp only[List.length_cons,List.length_nil,List.length_set];omega) <| yV <| aD <| cQ (d:=cN ins gs os) rfl <| cn <| vF hc hc1 (hc0 _ rfl) ⟨rfl,_,rfl,?_⟩
 simp only[List.set_cons_succ,List.set_cons_zero]
 refine eG <| vP <| aD <| gM (fun j ds S2=>S2=S++[SO.ins 0 (cP c (cN ins gs os))]∧ds=((os.map (sB c ins gs)).map D.bl).take j) ?_
 refine qJ <| qz (k:=S.length) <| w_var (v:= .loc S.length) rfl ⟨_,rfl,hb,Ab _ _ (by decide+kernel) (by decide+kernel) (by decide+kernel) (by decide+kernel),?_⟩
 refine aD <| cQ (d:= .tup (([]:List Int).map .int)) rfl <| cn <| me NO hc ho hcl hb ⟨_,rfl,?_,⟨rfl,by simp⟩,?_,?_⟩
 ·rw[List.length_map,zW,List.length_map];omega
 ·rintro j v ds S2 hv ⟨rfl,rfl⟩
  rw[zW] at hv
  obtain⟨x,hx,rfl⟩:=NT.kJ hv
  refine⟨[some (.d (.tup [mI (2 ^ c) (r0 (tell (Wd c ins gs [] []) x)),mI (2 ^ c) (r1 (tell (Wd c ins gs [] []) x))])),some (.loc S.length)],rfl,lZ ?_⟩
  rw[if_pos rfl]
  refine xv <| cQ (d:=mI (2 ^ c) (sF c ins gs x)) (aG (a:=mI (2 ^ c) (r0 (tell (Wd c ins gs [] []) x))) (b:=mI (2 ^ c) (r1 (tell (Wd c ins gs [] []) x))) (aG (a:= .tup [mI (2 ^ c) (r0 (tell (Wd c ins gs [] []) x)),mI (2 ^ c) (r1 (tell (Wd c ins gs [] []) x))]) (b:= .int 0) rfl rfl yt) (aG (a:= .tup [mI (2 ^ c) (r0 (tell (Wd c ins gs [] []) x)),mI (2 ^ c) (r1 (tell (Wd c ins gs [] []) x))]) (b:= .int 1) rfl rfl AF) (yW _ _ _)) <| w_fld (k:=S.length) <| w_var (v:= .loc S.length) rfl ⟨_,_,rfl,hb,qM,_,_, .bl (sB c ins gs x),rfl,rfl,Al,_,rfl,rfl,?_⟩
  rw[List.take_add_one,List.getElem?_map,List.getElem?_map,hx]
  rfl
 ·rintro ds S2 ⟨rfl,rfl⟩
  rw[List.length_map,zW,List.length_map,List.take_of_length_le (by simp)]
  refine cn ⟨[_], .bl (os.all (sB c ins gs)),rfl,?_,_,rfl,by unfold d8;rfl,⟨_,rfl⟩,_,by unfold res;rfl,h⟩
  show(match bls? ((os.map (sB c ins gs)).map D.bl) with | some bs=>R.ok (D.bl (bs.all id)) | none=> .no)=_
  rw[uQ]
  show R.ok (D.bl ((os.map (sB c ins gs)).all id))=_
  rw[List.all_map];rfl
end
end K13
end
section
set_option maxRecDepth 100000
set_option maxHeartbeats 4000000
namespace K13
open PySem PySem.Spec PyProof.Rows L2 L3 MT
theorem EH{fa fb:FX}{δ:DE}{S:aJ}{QV:V3→aJ→Prop}(h:W3 (fa δ S) fun a S1=>W3 (fb δ S1) fun b S2=>∃vs i v,a= .lst vs∧b= .d (.int i)∧l8 vs i=some v∧QV v S2):W3 (xD fa fb δ S) QV:=
 W3.bind (h.mono fun _ _ h=>W3.bind (h.mono fun _ _ ⟨vs,i,v,e1,e2,e3,q⟩=>by
  subst e1 e2
  simp only[e3]
  exact W3.ok q))
theorem range_getD{α β:Type}(F:α→β)(d:α)(os:List α):(List.range os.length).map (fun j=>F (os.getD j d))=os.map F:=by
 refine List.ext_getElem? fun i=>?_
 rw[List.getElem?_map,List.getElem?_map]
 by_cases q:i < os.length
 ·rw[List.getElem?_range q,List.getElem?_eq_getElem q]
  show some (F (os.getD i d))=some (F os[i])
  rw[List.getD_eq_getElem?_getD,List.getElem?_eq_getElem q];rfl
 ·rw[List.getElem?_eq_none (by simp;omega),List.getElem?_eq_none (by omega)];rfl
section
variable {c:Nat} {ins:List (Str × Nat)} {gs:List Gt} {os:List (Str × List Nat)} {S:aJ}
noncomputable def cl(c:Nat)(ins:List (Str × Nat))(gs:List Gt)(os:List (Str × List Nat))(j n:Nat):List D:=(List.range n).map fun p=>tD (pt (Wd c ins gs [] []) (os.getD j (Str.ofString "",[])) p)
noncomputable def CS(c:Nat)(ins:List (Str × Nat))(gs:List Gt)(os:List (Str × List Nat))(k p:Nat):aJ:=(List.range os.length).map fun j=>SO.lst (cl c ins gs os j (if j < k then p+1 else p))
theorem BR{k p j:Nat}(h:j < os.length):(S++CS c ins gs os k p)[S.length+j]? =some (.lst (cl c ins gs os j (if j < k then p+1 else p))):=by
 rw[List.getElem?_append_right (by omega),show S.length+j - S.length=j by omega]
 unfold CS
 rw[List.getElem?_map,List.getElem?_range h];rfl
theorem B6{k p:Nat}(h:k < os.length):(S++CS c ins gs os k p).set (S.length+k) (.lst (cl c ins gs os k (p+1)))=S++CS c ins gs os (k+1) p:=by
 rw[List.set_append_right _ _ (by omega),show S.length+k - S.length=k by omega]
 congr 1
 refine List.ext_getElem? fun i=>?_
 rw[List.getElem?_set]
 unfold CS
 rw[List.length_map,List.length_range,List.getElem?_map,List.getElem?_map]
 by_cases q:k=i
 ·subst q
  rw[if_pos rfl,if_pos h,List.getElem?_range h]
  show some (SO.lst (cl c ins gs os k (p+1)))=some (SO.lst (cl c ins gs os k (if k < k+1 then p+1 else p)))
  rw[if_pos (by omega)]
 ·rw[if_neg q]
  by_cases r:i < os.length
  ·rw[List.getElem?_range r]
   show some (SO.lst (cl c ins gs os i (if i < k then p+1 else p)))=some (SO.lst (cl c ins gs os i (if i < k+1 then p+1 else p)))
   by_cases z:i < k
   ·rw[if_pos z,if_pos (by omega)]
   ·rw[if_neg z,if_neg (by omega)]
  ·rw[List.getElem?_eq_none (by simp;omega)];rfl
theorem A8{p:Nat}:CS c ins gs os os.length p=CS c ins gs os 0 (p+1):=by
 unfold CS
 refine List.map_congr_left fun j hj=>?_
 rw[List.mem_range] at hj
 rw[if_pos hj,if_neg (by omega)]
theorem Cq{k p:Nat}(hS:qw S):qw (S++CS c ins gs os k p):=fun o ho=>by
 rcases List.mem_append.mp ho with q | q
 ·exact lK (by simp) o (hS o q)
 ·unfold CS at q
  obtain⟨j,_,rfl⟩:=List.mem_map.mp q
  rfl
noncomputable def lcs(n m:Nat):List V3:=(List.range m).map fun j=>V3.loc (n+j)
theorem yG:∀(n:Nat) (l:List Nat),ix n (l.map fun j=>V3.loc (n+j))=true
 | n,[]=>by unfold List.map ix;rfl
 | n,x ::l=>by
   rw[List.map_cons]
   unfold ix
   rw[yG n l,Bool.and_true]
   show decide (n≤n+x)=true
   exact decide_eq_true (by omega)
theorem vb{S1:aJ}{n:Nat}{F:Nat→List D}:∀(l:List Nat),(∀j∈l,S1[n+j]? =some (.lst (F j)))→jl S1 (l.map fun j=>V3.loc (n+j))=some (l.map fun j=>D.lst (F j))
 | [],_=>by rw[List.map_nil,List.map_nil];unfold jl;rfl
 | x ::l,h=>by
   rw[List.map_cons,List.map_cons]
   unfold jl
   rw[vb l fun j hj=>h j (List.mem_cons_of_mem _ hj)]
   unfold res
   rw[h x List.mem_cons_self];rfl
theorem z6{n m:Nat}(h:1≤m):f7 (lcs n m)= .lst (lcs n m):=by
 obtain⟨k,rfl⟩:∃k,m=k+1:=⟨m - 1,by omega⟩
 unfold lcs
 rw[List.range_succ_eq_map,List.map_cons]
 rfl
theorem tW(NO:jj ins gs os)(hc:ins.length=c)(hc1:c≤6)(ho1:1≤os.length)(ho:∀x∈os,1≤x.2.length∧x.2.length≤3)(hS:qw S){Q:V3→aJ→Prop}(h:Q (.d (oR c ins gs os)) S) :
 W3 (eQ [.d (cN ins gs os)] S) Q:=by
 have hz:sizeLine=16777216:=sizeLine_eq
 have hO:=NO.ho
 have hpow:2 ^ c≤64:=Nat.pow_le_pow_right (by omega) (by omega:c≤6)
 unfold eQ
 refine ka hS (qe rfl ?_)
 simp only[bx,eh,List.map_cons,List.map_nil,List.length_cons,List.length_nil,List.replicate,List.cons_append,List.nil_append,Nat.reduceAdd,Nat.reduceSub]
 unfold hX
 refine aQ <| br (by simp only[List.length_cons,List.length_nil,List.length_set];omega) <| yT <| kN (ds:=os.map uq) (tG (aG (a:=cN ins gs os) (b:= .int 2) rfl rfl rfl)) ⟨by rw[List.length_map,List.length_map];omega,?_⟩
 refine(p9 (fun i ys S2=>ys=lcs S.length i∧S2=S++List.replicate i (SO.lst [])) ⟨rfl,by simp⟩ ?_).mono fun ys S2 ⟨e1,e2'⟩=>?_
 ·rintro i v ys S2 hv ⟨rfl,rfl⟩
  refine⟨[some v],rfl,lZ ?_⟩
  rw[if_pos rfl]
  refine ie (ds:=[]) rfl ⟨?_,?_⟩
  ·unfold lcs
   rw[List.range_succ,List.map_append,List.length_append,List.length_replicate];rfl
  ·rw[List.append_assoc,List.replicate_succ']
 subst e1 e2'
 rw[List.length_map,List.length_map,z6 ho1]
 refine⟨_,rfl,?_⟩
 simp only[List.set_cons_succ,List.set_cons_zero]
 have h0:List.replicate os.length (SO.lst [])=CS c ins gs os 0 0:=by
  unfold CS
  refine List.ext_getElem? fun i=>?_
  rw[List.getElem?_map,List.getElem?_replicate]
  by_cases q:i < os.length
  ·rw[if_pos q,List.getElem?_range q];rfl
  ·rw[if_neg q,List.getElem?_eq_none (by simp;omega)];rfl
 rw[h0]
 refine aQ <| gz <| kN (ds:=(List.range (2 ^ c)).map nI) ?_ ?_
 ·rw[←ya]
  exact f_ (n:=2 ^ c) (aG (a:= .int 1) (b:=nI c) rfl (aO (ds:=[.lst (ins.map MT.inD)]) (aR (aG (a:=cN ins gs os) (b:= .int 0) rfl rfl rfl) rfl) (by rw[kr,List.length_map,hc];rfl)) (uE (by omega))) (by omega)
 refine(cc (fun i δ S2=>(∃a2 a3 a4,δ=[some (.d (cN ins gs os)),some (.lst (lcs S.length os.length)),a2,a3,a4])∧S2=S++CS c ins gs os 0 i) ⟨⟨_,_,_,rfl⟩,rfl⟩ ?_).mono fun o S2 ⟨δ2,e2',⟨a2,a3,a4,hδ⟩,hS2⟩=>⟨δ2,e2',?_⟩
 ·rintro p v δ S2 hv ⟨⟨a2,a3,a4,rfl⟩,rfl⟩
  obtain⟨p',hp',rfl⟩:=NT.kJ hv
  obtain⟨hp1,hp2⟩:=List.getElem?_eq_some_iff.mp hp'
  rw[List.length_range] at hp1
  rw[List.getElem_range] at hp2
  subst hp2
  have hpb:=qZ c p hp1
  refine⟨[some (.d (cN ins gs os)),some (.lst (lcs S.length os.length)),some (.d (nI p)),a3,a4],rfl,?_⟩
  unfold ji
  refine gz <| Cg <| cG <| aD <| cQ (d:=cN ins gs os) rfl <| aD <| cQ (d:= .tup ((lo c p).map bI)) (aO (ds:=[nI p,nI c]) (aR rfl (aR (aO (ds:=[.lst (ins.map MT.inD)]) (aR (aG (a:=cN ins gs os) (b:= .int 0) rfl rfl rfl) rfl) (by rw[kr,List.length_map,hc];rfl)) rfl)) (AX (by omega))) <| aD <| cQ (d:= .tup (([]:List Int).map .int)) rfl <| aD <| cQ (d:= .tup (([]:List Int).map .int)) rfl <| cn <| CK NO (by rw[uD,hc]) (Cq hS) ⟨_,rfl,?_⟩
  refine(cc (fun k δ S3=>(∃a3 a4,δ=[some (.d (cN ins gs os)),some (.lst (lcs S.length os.length)),some (.d (nI p)),a3,a4])∧S3=S++CS c ins gs os k p) ⟨⟨_,_,rfl⟩,rfl⟩ ?_).mono fun o S3 ⟨δ3,e3,⟨b3,b4,hδ3⟩,hS3⟩=>?_
  ·rintro k v δ S3 hv ⟨⟨b3,b4,rfl⟩,rfl⟩
   obtain⟨d,hd,rfl⟩:=qx hv
   rw[gE] at hd
   obtain⟨x,hx,rfl⟩:=NT.Bx hd
   have hkl:=(List.getElem?_eq_some_iff.mp hx).1
   have hxd:os.getD k (Str.ofString "",[])=x:=by rw[List.getD_eq_getElem?_getD,hx];rfl
   refine⟨[some (.d (cN ins gs os)),some (.lst (lcs S.length os.length)),some (.d (nI p)),some (.d (.int k)),some (.d (.tup ((tell (mD ins gs ((lo c p).map cM) [] []) x).map (mI 1))))],rfl,?_⟩
   unfold jc
   have hat:=BR (S:=S) (c:=c) (ins:=ins) (gs:=gs) (os:=os) (k:=k) (p:=p) hkl
   rw[if_neg (by omega)] at hat
   refine CP (k:=S.length+k) <| EH <| w_var (v:= .lst (lcs S.length os.length)) rfl <| cQ (d:= .int k) rfl ⟨_,_,_,rfl,rfl,NT.sH (x:=V3.loc (S.length+k)) ?_,rfl,⟨_,hat⟩,?_⟩
   ·unfold lcs
    rw[List.getElem?_map,List.getElem?_range hkl];rfl
   refine cQ (d:=tD (A9 ((tell (mD ins gs ((lo c p).map cM) [] []) x).map (· 0)))) (aO (ds:=[.tup ((tell (mD ins gs ((lo c p).map cM) [] []) x).map (mI 1))]) rfl (AK ?_)) ⟨_,_,rfl,hat,?_,_,rfl,⟨_,_,rfl⟩,?_⟩
   ·unfold tell;rw [List.length_map];exact ho x (List.mem_of_getElem? hx)
   ·unfold cl;rw [List.length_map,List.length_range];omega
   ·rw[←B6 hkl]
    congr 2
    unfold cl
    rw[List.range_succ,List.map_append]
    congr 1
    show [tD _]=[tD (pt (Wd c ins gs [] []) (os.getD k (Str.ofString "",[])) p)]
    rw[hxd]
    congr 2
    unfold pt tell
    rw[List.map_map,List.map_map]
    congr 1
    exact List.map_congr_left fun n _=>Co hc hpb
  ·subst hδ3 hS3
   have hel:((dO (gE 1 os (mD ins gs ((lo c p).map cM) [] []))).map V3.d).length=os.length:=by unfold dO gE;simp
   rw[hel,A8]
   exact⟨_,e3,⟨_,_,_,rfl⟩,rfl⟩
 ·subst hδ hS2
  rw[List.length_map,List.length_map,List.length_range]
  refine eG <| w_var (v:= .lst (lcs S.length os.length)) rfl ⟨_,rfl,?_,⟨_,rfl⟩,oR c ins gs os,?_,h⟩
  ·show ix S.length (lcs S.length os.length)=true
   exact yG _ _
  ·unfold res lcs
   rw[vb (F:=fun j=>cl c ins gs os j (2 ^ c)) _ fun j hj=>?_]
   ·show some (D.lst _)=some (D.lst _)
    congr 2
    exact range_getD (fun x=>D.lst ((List.range (2 ^ c)).map fun p=>tD (pt (Wd c ins gs [] []) x p))) _ os
   ·have:=BR (S:=S) (c:=c) (ins:=ins) (gs:=gs) (os:=os) (k:=0) (p:=2 ^ c) (List.mem_range.mp hj)
    rw[if_neg (by omega)] at this
    exact this
end
end K13
end
section
set_option maxRecDepth 100000
set_option maxHeartbeats 4000000
namespace K13
open PySem PySem.Spec PyProof.Rows L2 L3 MT
theorem CA{f g:aw→R Bool}{δ:aw}{a b:Bool}(h1:f δ= .ok a)(h2:g δ= .ok b):qR f g δ= .ok (a || b):=by
 unfold qR
 rw[h1,R.aS]
 cases a with
 | true=>rw [if_pos rfl];rfl
 | false=>rw [if_neg (by decide),h2];rfl
theorem Ep{f g:FB}{δ:DE}{S:aJ}{QB:Bool→aJ→Prop}(h:W3 (f δ S) fun b S1=>b=false∧W3 (g δ S1) QB):W3 (GN f g δ S) QB:=W3.bind (h.mono fun _ _ ⟨e,h⟩=>by subst e;exact h)
theorem n9{α:Type}{f g:α→Bool}:∀{xs:List α},(∀x∈xs,f x=g x)→xs.all f=xs.all g
 | [],_=>rfl
 | x ::xs,h=>by rw[List.all_cons,List.all_cons,h x List.mem_cons_self,n9 fun y hy=>h y (List.mem_cons_of_mem _ hy)]
theorem IX(b:Bool):tD (A9 [b])= .int (if b then 1 else 0):=by cases b <;> rfl
theorem HU(a b d:Bool):tD (A9 [a,b,d])=bI ((a && b) || (a && d) || (b && d)):=by cases a <;> cases b <;> cases d <;> rfl
noncomputable def bN(c:Nat)(ins:List (Str × Nat))(gs:List Gt)(s p:Nat):Bool:=gm (Wd c ins gs [] []) s p
noncomputable def cI(c:Nat)(ins:List (Str × Nat))(gs:List Gt)(s:Nat):D:= .lst ((List.range (2 ^ c)).map fun p=> .int (if bN c ins gs s p then 1 else 0))
section
variable {c:Nat} {ins:List (Str × Nat)} {gs:List Gt} {os:List (Str × List Nat)}
theorem xu{x:Str × List Nat}{p:Nat}(hl:1≤x.2.length∧x.2.length≤3)(h2:∀a b,x.2=[a,b]→gm (Wd c ins gs [] []) a p=gm (Wd c ins gs [] []) b p):(pt (Wd c ins gs [] []) x p).2=!(pt (Wd c ins gs [] []) x p).1:=by
 unfold pt tell
 rw[List.map_map]
 obtain⟨s,ws⟩:=x
 match ws,hl,h2 with
 | [a],_,_=>show gm _ a p=!(!(gm _ a p));rw [Bool.not_not]
 | [a,b],_,h2=>
   show(gm (Wd c ins gs [] []) a p && gm (Wd c ins gs [] []) b p)=!(!(gm (Wd c ins gs [] []) a p || gm (Wd c ins gs [] []) b p))
   rw[h2 a b rfl]
   cases gm (Wd c ins gs [] []) b p <;> rfl
 | [a,b,d],_,_=>
   show _=!(!_)
   rw[Bool.not_not];rfl
theorem Ao{x:Str × List Nat}(h:∀p,(pt (Wd c ins gs [] []) x p).2=!(pt (Wd c ins gs [] []) x p).1):sB c ins gs x=true:=by
 unfold sB
 rw[vK,List.all_eq_true]
 intro p _
 show(_ || _)=true
 rw[h p]
 cases(pt (Wd c ins gs [] []) x p).1 <;> rfl
theorem CU(n:Str)(s:Nat):(D.lst ((List.range (2 ^ c)).map fun p=>tD (pt (Wd c ins gs [] []) (n,[s]) p)))=cI c ins gs s:=by
 unfold cI
 congr 1
 exact List.map_congr_left fun p _=>IX _
theorem Aq(n:Str)(s t:Nat):ik (cI c ins gs s) (cI c ins gs t)= .ok (.bl (sB c ins gs (n,[s,t]))):=by
 unfold ik cI
 rw[yN]
 show R.ok (D.bl _)=_
 congr 2
 unfold sB
 rw[vK]
 refine n9 fun p _=>?_
 show((if bN c ins gs s p then(1:Int) else 0)==(if bN c ins gs t p then 1 else 0))=((A9 [bN c ins gs s p,bN c ins gs t p]).1 || (A9 [bN c ins gs s p,bN c ins gs t p]).2)
 cases bN c ins gs s p <;> cases bN c ins gs t p <;> rfl
theorem vS:gg 2 (oR c ins gs os):=by
 unfold oR
 refine gg.lst fun d hd=>?_
 obtain⟨x,_,rfl⟩:=List.mem_map.mp hd
 refine gg.lst fun d hd=>?_
 obtain⟨p,_,rfl⟩:=List.mem_map.mp hd
 unfold tD
 split
 ·exact gg.int _
 ·split
  ·exact gg.int _
  ·exact gg.cD
end
theorem vz:∀l:List (Str × Nat),(l.map fun x=>(x.2:Int)).sum=(fq l:Int)
 | []=>rfl
 | x ::l=>by
   have ih:=vz l
   unfold fq at ih ⊢
   rw[List.map_cons,List.sum_cons,List.map_cons,List.sum_cons,ih]
   omega
theorem Bz(ns:List Int)(k:Nat):∃c:Int,dA [.lst (ns.map .int), .int k]= .ok (.int c):=by
 by_cases h:k < ns.length
 ·refine⟨ns[k],?_⟩
  unfold dA hZ
  refine c9 ?_
  have e:nU (b2 xj (ai 1) (aK cK (au (ai 0) aI))) (el (e2 cw (ai 0) (ai 1))) i9 (cz ia [.lst (ns.map .int), .int k])= .ok (.rt (.int ns[k])):=by
   refine mj ?_ (cB (aG (a:= .lst (ns.map .int)) (b:= .int k) rfl rfl (iZ (qH (by rw[List.getElem?_map,List.getElem?_eq_getElem h];rfl)))))
   refine iB (a:= .int k) (b:= .int ns.length) rfl (aO (ds:=[.lst (ns.map .int)]) rfl (by rw[kr,List.length_map])) ?_
   show R.ok (D.bl (decide ((k:Int) < (ns.length:Int))))=_
   rw[decide_eq_true (by omega)]
  unfold eN
  rw[e];rfl
 ·refine⟨0,?_⟩
  unfold dA hZ
  refine c9 (bS (fZ ?_ rfl) rfl)
  refine iB (a:= .int k) (b:= .int ns.length) rfl (aO (ds:=[.lst (ns.map .int)]) rfl (by rw[kr,List.length_map])) ?_
  show R.ok (D.bl (decide ((k:Int) < (ns.length:Int))))=_
  rw[decide_eq_false (by omega)]
theorem AS(ns:List Int)(lo hi:Option Int):L2.cutD (ns.map D.int) lo hi=(L2.cutD ns lo hi).map D.int:=by
 unfold L2.cutD
 rw[List.length_map,List.map_take,List.map_drop]
theorem Bn:(10000000000000000000000000000000000000000:Int).natAbs.log2 < 9000:=by decide+kernel
theorem zi(ns:List Int)(hns:ns.length≤63):uY [.lst (ns.map D.int)]= .ok (.bl true):=by
 have hz:sizeLine=16777216:=sizeLine_eq
 have key:W3 (lA j5 pf [.d (.lst (ns.map .int))] []) fun v S1=>v= .d (.bl true)∧S1=[]:=by
  refine mZ (qe rfl ?_)
  simp only[bx,j5,List.map_cons,List.map_nil,List.length_cons,List.length_nil,List.replicate,List.cons_append,List.nil_append,Nat.reduceAdd,Nat.reduceSub]
  unfold pf
  obtain⟨c0,ec0⟩:=Bz ns 0
  refine aQ <| br (by simp only[List.length_cons,List.length_nil,List.length_set];omega) <| cG <| aD <| cQ (d:= .int c0) (aO (ds:=[.lst (ns.map .int), .int 0]) rfl ec0) <| cn <| uL c0 Flat.nil fun S1 p1 l1 _=>⟨_,rfl,?_⟩
  simp only[List.set_cons_succ,List.set_cons_zero]
  simp only[List.length_nil] at p1 l1 ⊢
  refine aQ <| br (by simp only[List.length_cons,List.length_nil,List.length_set];omega) <| cQ (d:= .lst ((L2.cutD ns (some 1) (some 61)).map .int)) ?_ ⟨_,rfl,?_⟩
  ·refine yp (d:= .lst (ns.map .int)) (lo:=some 1) (hi:=some 61) rfl rfl rfl ?_
   show R.ok (D.lst (L2.cutD (ns.map D.int) (some 1) (some 61)))=_
   rw[AS]
  simp only[List.set_cons_succ,List.set_cons_zero]
  have hcl:(L2.cutD ns (some 1) (some 61)).length≤60:=by
   unfold L2.cutD
   rw[show(some (1:Int))=some ((1:Nat):Int) from rfl,show(some (61:Int))=some ((61:Nat):Int) from rfl,HT.vV,HT.vV,List.length_take]
   omega
  generalize L2.cutD ns (some 1) (some 61)=cs at hcl
  refine aQ <| gz <| kN (ds:=bZ 0 (2 - (cs.length:Int)).toNat) ?_ ?_
  ·have e:e2 iO (eC (.int 2)) (aK cK (au (ai 2) aI)) (down [some (.d (.lst (ns.map .int))),some (.loc 0),some (.d (.lst (cs.map .int))),none,none,none,none,none,none,none,none,none,none])= .ok (.int (2 - (cs.length:Int))):=
    aG (a:= .int 2) (b:= .int cs.length) rfl (aO (ds:=[.lst (cs.map .int)]) rfl (by rw[kr,List.length_map])) rfl
   unfold eg
   rw[e,R.aS]
   show R.bF (decide (-(2 ^ 62)≤2 - (cs.length:Int)∧2 - (cs.length:Int) < 2 ^ 62)) _=_
   rw[bB _ ⟨by omega,by omega⟩]
  refine(cc (fun i δ S2=>mv 0 S2∧∃(ds:List Int) (a3:Option V3),ds.length=cs.length+i∧δ=[some (.d (.lst (ns.map .int))),some (.loc 0),some (.d (.lst (ds.map .int))),a3,none,none,none,none,none,none,none,none,none])
   ⟨p1,cs,none,rfl,rfl⟩ ?_).mono fun o S2 ⟨δ2,e2',p2,ds,a3,hds,hδ⟩=>⟨δ2,e2',?_⟩
  ·rintro i v δ S2 hv ⟨p2,ds,a3,hds,rfl⟩
   have hi:i < 4:=by
    have:=(List.getElem?_eq_some_iff.mp hv).1
    rw[List.length_map,bZ,List.length_map,List.length_range] at this
    omega
   refine⟨_,rfl,?_⟩
   unfold vI
   refine br (by simp only[List.length_cons,List.length_nil,List.length_set];omega) <| xv <| cQ (d:= .lst (ds.map .int)) rfl <| Fu <| aD <| cG <| aD <| w_var (v:= .loc 0) rfl <| aD <| cQ (d:= .int 10000000000000000000000000000000000000000) ?_ <| cn <| qt p2 (by omega) Bn fun r S3 h1 h2 v3=>cn ⟨by simp;omega,_,_, .lst ((ds++[r]).map .int),rfl,rfl,?_,_,rfl,v3.p,ds++[r],some v,by simp [hds];omega,rfl⟩
   ·exact rfl
   ·rw[List.map_append]
    exact vQ (by rw[List.length_map];simp;omega)
  have hdl:ds.length≤62∧2≤ds.length:=by
   rw[List.length_map,bZ,List.length_map,List.length_range] at hds
   omega
  subst hδ
  refine aQ <| br (by simp only[List.length_cons,List.length_nil,List.length_set];omega) <| cG <| aD <| w_var (v:= .loc 0) rfl <| aD <| cQ (d:= .lst (ds.map .int)) rfl <| aD <| cQ (d:= .int 6) rfl <| aD <| cQ (d:= .int 1) rfl <| cn <| yJ p2 (by omega) ⟨by omega,by omega⟩ fun l gs os S4 hlw hl1 hl6 hgl hgs hol1 hol hos v4=>⟨_,rfl,?_⟩
  simp only[List.set_cons_succ,List.set_cons_zero]
  have hwl:fq l≤100*l.length:=sY fun x hx=>by have:=hlw x hx;omega
  have hNO:∀os':List (Str × List Nat),os'.length < 1000→(∀x∈os',x.2.length < 1000∧∀w∈x.2,w < fq l+gs.length)→jj l gs os':=fun os' h1 h2=>⟨by omega,fun x hx=>by have:=hlw x hx;omega,by omega,hgs,h1,h2⟩
  have NO:jj l gs os:=hNO os (by omega) fun x hx=>⟨by have:=(hos x hx).1;omega,(hos x hx).2.1⟩
  have ho:∀x∈os,1≤x.2.length∧x.2.length≤3:=fun x hx=>(hos x hx).1
  have hsd:∀x∈os,∀p,(pt (Wd l.length l gs [] []) x p).2=!(pt (Wd l.length l gs [] []) x p).1:=fun x hx p=>xu (ho x hx) fun a b hab=>(hos x hx).2.2 a b hab (oM l.length) oe p
  have hF4:Flat S4:=v4.p.1
  have hsn:os.all (sB l.length l gs)=true:=List.all_eq_true.mpr fun x hx=>Ao (hsd x hx)
  have hpow:2 ^ l.length≤64:=Nat.pow_le_pow_right (by omega) (by omega:l.length≤6)
  refine aQ <| EL <| cQ (d:=cN l gs os) rfl ⟨_,rfl,_,rfl,?_⟩
  show W3 (bo _ _ [some (.d (.lst (ns.map .int))),some (.loc 0),some (.d (.lst (ds.map .int))),a3,some (.d (cN l gs os)),some (.d (.lst (l.map MT.inD))),some (.d (.lst (gs.map gW))),some (.d (.lst (os.map uq))),none,none,none,none,none] S4) _
  refine aQ <| s_ <| Ep <| CC <| cG <| aD <| cQ (d:=cN l gs os) rfl <| cn <| mh (c:=l.length) NO rfl (by omega) ho hF4.D6 <| cQ (d:= .bl true) rfl ⟨_,_,false,rfl,rfl,by rw[hsn];rfl,rfl,?_⟩
  refine CC <| cG <| aD <| cQ (d:=cN l gs os) rfl <| cn <| ko (c:=l.length) NO rfl (by omega) ho hF4.D6 <| cG <| aD <| cQ (d:=cN l gs os) rfl <| cn <| tW (c:=l.length) NO rfl (by omega) hol1 ho hF4.D6 ⟨_,_,false,rfl,rfl,?_,?_⟩
  ·unfold sU oR
   rw[show zU (.lst (os.map fun x=>D.lst ((List.range (2 ^ l.length)).map fun p=>tD (pt (Wd l.length l gs [] []) x p)))) (.lst (os.map fun x=>D.lst ((List.range (2 ^ l.length)).map fun p=>tD (pt (Wd l.length l gs [] []) x p))))= .ok true from gg.Hs (vS (c:=l.length) (ins:=l) (gs:=gs) (os:=os)) (by omega)]
   rfl
  rw[if_neg (by decide)]
  refine og ⟨_,rfl,?_⟩
  refine aQ <| br (by simp only[List.length_cons,List.length_nil,List.length_set];omega) <| cQ (d:=nI (fq l+gs.length)) ?_ ⟨_,rfl,?_⟩
  ·refine aG (a:=nI (fq l)) (b:=nI gs.length) (aO (ds:=[.lst ((l.map fun x=>(x.2:Int)).map .int)]) (aR (gH (iG (ds:=l.map MT.inD) (tG rfl) (by rw[List.length_map];omega) ?_)) rfl) ?_) (aO (ds:=[.lst (gs.map gW)]) rfl (by rw[kr,List.length_map];rfl)) ?_
   ·rw[List.map_map]
    exact NT.eB MT.inD _ fun x _=>⟨[.val (.str x.1), .val (nI x.2)],rfl,rfl,rfl⟩
   ·show(match ints? ((l.map fun x=>(x.2:Int)).map D.int) with | some ns=>R.ok (D.int ns.sum) | none=> .no)=_
    rw[L2.ints_map]
    show R.ok (D.int ((l.map fun x=>(x.2:Int)).sum))=_
    rw[vz];rfl
   ·show R.ok (D.int ((fq l:Int)+(gs.length:Int)))=R.ok (D.int ((fq l+gs.length:Nat):Int))
    congr 2
  simp only[List.set_cons_succ,List.set_cons_zero]
  have hW0:0 < fq l+gs.length:=by omega
  generalize hWW:fq l+gs.length=W at hW0
  refine aQ <| br (by simp only[List.length_cons,List.length_nil,List.length_set];omega) <| gM (fun j es S8=>Ev 0 S4 S8∧∃rs:List Nat,es=rs.map nI∧rs.length=j∧∀r∈rs,r < W) (kN (ds:=bZ 0 3) rfl ⟨by simp [bZ];omega,⟨Ev.refl v4.p,[],rfl,rfl,fun r hr=>by cases hr⟩,?_,?_⟩)
  ·rintro j v es S8 hv ⟨v8,rs,rfl,hrl,hr⟩
   refine⟨[some v,some (.loc 0),some (.d (nI W))],rfl,lZ ?_⟩
   rw[if_pos rfl]
   refine draw (k:=0) (i:=1) (m:=(W:Int)) rfl v8.p rfl (by omega) (by omega) fun r S9 h1 h2 v9=>⟨_,rfl,v8.trans v9,rs++[r.toNat],?_,by simp [hrl],?_⟩
   ·rw[List.map_append]
    congr 1
    show [D.int r]=[D.int (r.toNat:Nat)]
    rw[Int.toNat_of_nonneg h1]
   ·intro x hx
    rcases List.mem_append.mp hx with q | q
    ·exact hr x q
    ·rw[List.mem_singleton.mp q];omega
  ·rintro es S8 ⟨v8,rs,rfl,hrl,hr⟩
   have hrl:rs.length=3:=by rw[hrl];simp [bZ]
   refine⟨_,rfl,?_⟩
   simp only[List.set_cons_succ,List.set_cons_zero]
   obtain⟨s0,s1,s2,rfl⟩:∃s0 s1 s2,rs=[s0,s1,s2]:=by
    match rs,hrl with
    | [a,b,c],_=>exact⟨a,b,c,rfl⟩
   subst hWW
   have hF8:Flat S8:=v8.p.1
   have hs0:=hr s0 (by simp)
   have hs1:=hr s1 (by simp)
   have hs2:=hr s2 (by simp)
   let o3:List (Str × List Nat):=[(Str.ofString "a",[s0]),(Str.ofString "b",[s1]),(Str.ofString "c",[s2])]
   let o2:List (Str × List Nat):=[(Str.ofString "ab",[s0,s1])]
   let o1:List (Str × List Nat):=[(Str.ofString "abc",[s0,s1,s2])]
   have N3:jj l gs o3:=hNO o3 (by simp [o3]) fun x hx=>by
    simp only[o3,List.mem_cons,List.not_mem_nil,or_false] at hx
    rcases hx with rfl | rfl | rfl <;> (refine⟨by simp,fun w hw=>?_⟩;rw [List.mem_singleton.mp hw];assumption)
   have N2:jj l gs o2:=hNO o2 (by simp [o2]) fun x hx=>by
    rw[List.mem_singleton.mp hx]
    refine⟨by simp,fun w hw=>?_⟩
    simp only[List.mem_cons,List.not_mem_nil,or_false] at hw
    rcases hw with rfl | rfl <;> assumption
   have N1:jj l gs o1:=hNO o1 (by simp [o1]) fun x hx=>by
    rw[List.mem_singleton.mp hx]
    refine⟨by simp,fun w hw=>?_⟩
    simp only[List.mem_cons,List.not_mem_nil,or_false] at hw
    rcases hw with rfl | rfl | rfl <;> assumption
   have h3:∀x∈o3,1≤x.2.length∧x.2.length≤3:=fun x hx=>by
    simp only[o3,List.mem_cons,List.not_mem_nil,or_false] at hx
    rcases hx with rfl | rfl | rfl <;> simp
   have h2:∀x∈o2,1≤x.2.length∧x.2.length≤3:=fun x hx=>by rw[List.mem_singleton.mp hx];simp
   have h1:∀x∈o1,1≤x.2.length∧x.2.length≤3:=fun x hx=>by rw[List.mem_singleton.mp hx];simp
   refine aQ <| br (by simp only[List.length_cons,List.length_nil,List.length_set];omega) <| cG <| aD <| cQ (d:=cN l gs o3) rfl <| cn <| ko (c:=l.length) N3 rfl (by omega) h3 hF8.D6 ⟨_,rfl,?_⟩
   simp only[List.set_cons_succ,List.set_cons_zero]
   have ec3:oR l.length l gs o3= .lst [cI l.length l gs s0,cI l.length l gs s1,cI l.length l gs s2]:=by
    rw[←CU (Str.ofString "a") s0,←CU (Str.ofString "b") s1,←CU (Str.ofString "c") s2]
    rfl
   rw[ec3]
   refine aQ <| br (by simp only[List.length_cons,List.length_nil,List.length_set];omega) <| cG <| aD <| cQ (d:=cN l gs o2) rfl <| cn <| mh (c:=l.length) N2 rfl (by omega) h2 hF8.D6 ⟨_,rfl,?_⟩
   simp only[List.set_cons_succ,List.set_cons_zero]
   have e2s:o2.all (sB l.length l gs)=sB l.length l gs (Str.ofString "ab",[s0,s1]):=by
    show(sB l.length l gs (Str.ofString "ab",[s0,s1]) && true)=_
    rw[Bool.and_true]
   rw[e2s]
   have hpr:=Aq (c:=l.length) (ins:=l) (gs:=gs) (Str.ofString "ab") s0 s1
   generalize sB l.length l gs (Str.ofString "ab",[s0,s1])=PB at hpr
   refine aQ <| s_ <| CL (b:=false) ?_ ?_
   ·refine CA (a:=false) (b:=false) (by cases PB <;> rfl) (iB (a:= .bl PB) (b:= .bl PB) rfl (aG (a:=cI l.length l gs s0) (b:=cI l.length l gs s1) rfl rfl hpr) (by cases PB <;> rfl))
   rw[if_neg (by decide)]
   refine og ⟨_,rfl,?_⟩
   refine aQ <| br (by simp only[List.length_cons,List.length_nil,List.length_set];omega) <| gM (fun j es S9=>S9=S8∧es=((List.range (2 ^ l.length)).map fun p=>bI ((bN l.length l gs s0 p && bN l.length l gs s1 p) || (bN l.length l gs s0 p && bN l.length l gs s2 p) || (bN l.length l gs s1 p && bN l.length l gs s2 p))).take j) (kN (ds:=(List.range (2 ^ l.length)).map nI) ?_ ⟨by simp;omega,⟨rfl,by simp⟩,?_,?_⟩)
   ·rw[←ya]
    exact f_ (n:=2 ^ l.length) (aG (a:= .int 1) (b:=nI l.length) rfl (aO (ds:=[.lst (l.map MT.inD)]) rfl (by rw[kr,List.length_map];rfl)) (uE (by omega))) (by omega)
   ·rintro p v es S9 hv ⟨rfl,rfl⟩
    obtain⟨p',hp',rfl⟩:=NT.kJ hv
    obtain⟨hp1,hp2⟩:=List.getElem?_eq_some_iff.mp hp'
    rw[List.length_range] at hp1
    rw[List.getElem_range] at hp2
    subst hp2
    refine⟨[some (.d (nI p)),some (.d (.lst [cI l.length l gs s0,cI l.length l gs s1,cI l.length l gs s2]))],rfl,lZ ?_⟩
    rw[if_pos rfl]
    have hix:∀s,cw (cI l.length l gs s) (nI p)= .ok (.int (if bN l.length l gs s p then 1 else 0)):=fun s=>NT.vt (by rw[List.getElem?_map,List.getElem?_range hp1];rfl)
    refine cQ (d:=bI ((bN l.length l gs s0 p && bN l.length l gs s1 p) || (bN l.length l gs s0 p && bN l.length l gs s2 p) || (bN l.length l gs s1 p && bN l.length l gs s2 p))) ?_ ⟨_,rfl,rfl,?_⟩
    ·have i0:=hix s0
     have i1:=hix s1
     have i2:=hix s2
     generalize bN l.length l gs s0 p=b0 at i0 ⊢
     generalize bN l.length l gs s1 p=b1 at i1 ⊢
     generalize bN l.length l gs s2 p=b2 at i2 ⊢
     generalize cI l.length l gs s0=C0 at i0 ⊢
     generalize cI l.length l gs s1=C1 at i1 ⊢
     generalize cI l.length l gs s2=C2 at i2 ⊢
     refine(aO (ds:=[.bl (decide ((1:Int) < (if b0 then 1 else 0)+(if b1 then 1 else 0)+(if b2 then 1 else 0)))]) (aR (aG (a:= .int ((if b0 then 1 else 0)+(if b1 then 1 else 0)+(if b2 then 1 else 0))) (b:= .int 1) (aG (a:= .int ((if b0 then 1 else 0)+(if b1 then 1 else 0))) (b:= .int (if b2 then 1 else 0)) (aG (a:= .int (if b0 then 1 else 0)) (b:= .int (if b1 then 1 else 0)) (aG (a:=C0) (b:=nI p) (aG (a:= .lst [C0,C1,C2]) (b:= .int 0) rfl rfl rfl) rfl i0) (aG (a:=C1) (b:=nI p) (aG (a:= .lst [C0,C1,C2]) (b:= .int 1) rfl rfl rfl) rfl i1) rfl) (aG (a:=C2) (b:=nI p) (aG (a:= .lst [C0,C1,C2]) (b:= .int 2) rfl rfl rfl) rfl i2) rfl) rfl ?_) rfl) ?_)
     ·cases b0 <;> cases b1 <;> cases b2 <;> rfl
     ·cases b0 <;> cases b1 <;> cases b2 <;> rfl
    ·rw[List.take_add_one,List.getElem?_map,List.getElem?_range hp1]
     rfl
   ·rintro es S9 ⟨rfl,rfl⟩
    rw[List.length_map,List.length_map,List.length_range,List.take_of_length_le (by simp)]
    refine⟨_,rfl,?_⟩
    simp only[List.set_cons_succ,List.set_cons_zero]
    have ec1:D.lst [D.lst ((List.range (2 ^ l.length)).map fun p=>bI ((bN l.length l gs s0 p && bN l.length l gs s1 p) || (bN l.length l gs s0 p && bN l.length l gs s2 p) || (bN l.length l gs s1 p && bN l.length l gs s2 p)))]=oR l.length l gs o1:=by
     show _=D.lst [_]
     congr 3
     exact List.map_congr_left fun p _=>(HU _ _ _).symm
    refine eG <| xv <| cG <| aD <| cQ (d:=cN l gs o1) rfl <| cn <| ko (c:=l.length) N1 rfl (by omega) h1 hF8.D6 <| cQ (d:=oR l.length l gs o1) (by rw[←ec1];rfl) ⟨_,_, .bl true,rfl,rfl,?_,_,rfl,hF8,by unfold d8;rfl, .bl true,by unfold res;rfl,rfl,rfl⟩
    unfold ik oR
    rw[show zU (.lst (o1.map fun x=>D.lst ((List.range (2 ^ l.length)).map fun p=>tD (pt (Wd l.length l gs [] []) x p)))) (.lst (o1.map fun x=>D.lst ((List.range (2 ^ l.length)).map fun p=>tD (pt (Wd l.length l gs [] []) x p))))= .ok true from gg.Hs (vS (c:=l.length) (ins:=l) (gs:=gs) (os:=o1)) (by omega)]
    rfl
 obtain⟨v,S1,e,rfl,rfl⟩:=key
 unfold uY F7
 simp only[List.map_cons,List.map_nil]
 rw[e]
 rfl
end K13
end
open PySem PySem.W PyProof.Rows
set_option maxRecDepth 100000 in
set_option maxHeartbeats 0 in
theorem PySem.Challenge.cw_bearfaults_k13_whole_columns_by_runs_holds : PySem.Challenge.rw_bearfaults_k13_whole_columns_by_runs.Holds := by
 w_on;o_law;k_head;(case hw=>w_witness2)
 k_fill
 refine L2.FK (l:=PySem.Challenge.rw_bearfaults_k13_whole_columns_by_runs) (n:=63) (k:=7) (x:=Str.ofString "script") (g:=K13.uY) rfl (by decide) rfl ⟨rfl,by decide,by decide⟩ (fun w h Y=>PySem.W.kIn_of Y) ?F K13.zi
 case F=>
  intro w mg fa h KX G hmg
  have D_vote_of:L2.Def (L2.fj KX) mg (Str.ofString "vote_of") K13.d5:=by
   dsimp only[L2.fj]
   refine' L2.cf KX G ?a ?l ?c ?k
   (case a=>k_is);(case l=>k_is);(case c=>k_is);(case k=>k_is)
  have D_gate_mask:L2.Def (L2.fj KX) mg (Str.ofString "gate_mask") K13.cX:=by
   dsimp only[L2.fj]
   refine' L2.cf KX G ?a ?l ?c ?k
   (case a=>k_is);(case l=>k_is);(case c=>k_is);(case k=>k_is)
  have D_in_wire_masks:L2.Def (L2.fj KX) mg (Str.ofString "in_wire_masks") K13.bJ:=by
   dsimp only[L2.fj]
   refine' L2.cf KX G ?a ?l ?c ?k
   (case a=>k_is);(case l=>k_is);(case c=>k_is);(case k=>k_is)
  have D_masks_at:L2.Def (L2.fj KX) mg (Str.ofString "masks_at") K13.dm:=by
   dsimp only[L2.fj]
   refine' L2.cf KX G ?a ?l ?c ?k
   (case a=>k_is);(case l=>k_is);(case c=>k_is);(case k=>k_is)
  have D_wire_masks:L2.Def (L2.fj KX) mg (Str.ofString "wire_masks") K13.cC:=by
   dsimp only[L2.fj]
   refine' L2.cf KX G ?a ?l ?c ?k
   (case a=>k_is);(case l=>k_is);(case c=>k_is);(case k=>k_is)
  have D_out_masks:L2.Def (L2.fj KX) mg (Str.ofString "out_masks") K13.cS:=by
   dsimp only[L2.fj]
   refine' L2.cf KX G ?a ?l ?c ?k
   (case a=>k_is);(case l=>k_is);(case c=>k_is);(case k=>k_is)
  have D_run:L2.Def (L2.fj KX) mg (Str.ofString "run") K13.k_:=by
   dsimp only[L2.fj]
   refine' L2.cf KX G ?a ?l ?c ?k
   (case a=>k_is);(case l=>k_is);(case c=>k_is);(case k=>k_is)
  have D_reading:L2.Def (L2.fj KX) mg (Str.ofString "reading") K13.dW:=by
   dsimp only[L2.fj]
   refine' L2.cf KX G ?a ?l ?c ?k
   (case a=>k_is);(case l=>k_is);(case c=>k_is);(case k=>k_is)
  have D_bit_at:L2.Def (L2.fj KX) mg (Str.ofString "bit_at") K13.eO:=by
   dsimp only[L2.fj]
   refine' L2.cf KX G ?a ?l ?c ?k
   (case a=>k_is);(case l=>k_is);(case c=>k_is);(case k=>k_is)
  have D_read_at:L2.Def (L2.fj KX) mg (Str.ofString "read_at") K13.dY:=by
   dsimp only[L2.fj]
   refine' L2.cf KX G ?a ?l ?c ?k
   (case a=>k_is);(case l=>k_is);(case c=>k_is);(case k=>k_is)
  have D_told:L2.Def (L2.fj KX) mg (Str.ofString "told") K13.i5:=by
   dsimp only[L2.fj]
   refine' L2.cf KX G ?a ?l ?c ?k
   (case a=>k_is);(case l=>k_is);(case c=>k_is);(case k=>k_is)
  have D_all_inputs:L2.Def (L2.fj KX) mg (Str.ofString "all_inputs") K13.cA:=by
   dsimp only[L2.fj]
   refine' L2.cf KX G ?a ?l ?c ?k
   (case a=>k_is);(case l=>k_is);(case c=>k_is);(case k=>k_is)
  have D_mask_of:L2.Def (L2.fj KX) mg (Str.ofString "mask_of") K13.d4:=by
   dsimp only[L2.fj]
   refine' L2.cf KX G ?a ?l ?c ?k
   (case a=>k_is);(case l=>k_is);(case c=>k_is);(case k=>k_is)
  have D_in_mask:L2.Def (L2.fj KX) mg (Str.ofString "in_mask") K13.dX:=by
   dsimp only[L2.fj]
   refine' L2.cf KX G ?a ?l ?c ?k
   (case a=>k_is);(case l=>k_is);(case c=>k_is);(case k=>k_is)
  have D_is_sound:L2.Def (L2.fj KX) mg (Str.ofString "is_sound") K13.du:=by
   dsimp only[L2.fj]
   refine' L2.cf KX G ?a ?l ?c ?k
   (case a=>k_is);(case l=>k_is);(case c=>k_is);(case k=>k_is)
  have D_columns:L2.Def (L2.fj KX) mg (Str.ofString "columns") K13.d9:=by
   dsimp only[L2.fj]
   refine' L2.cf KX G ?a ?l ?c ?k
   (case a=>k_is);(case l=>k_is);(case c=>k_is);(case k=>k_is)
  have D_law_cell_at:L2.Def (L2.fj KX) mg (Str.ofString "_law_cell_at") K13.ck:=by
   dsimp only[L2.fj]
   refine' L2.cf KX G ?a ?l ?c ?k
   (case a=>k_is);(case l=>k_is);(case c=>k_is);(case k=>k_is)
  have D_law_reel:L2.Def (L2.fj KX) mg (Str.ofString "_law_reel") K13.dk:=by
   dsimp only[L2.fj]
   refine' L2.cf KX G ?a ?l ?c ?k
   (case a=>k_is);(case l=>k_is);(case c=>k_is);(case k=>k_is)
  have D_law_take:L2.Def (L2.fj KX) mg (Str.ofString "_law_take") K13.dr:=by
   dsimp only[L2.fj]
   refine' L2.cf KX G ?a ?l ?c ?k
   (case a=>k_is);(case l=>k_is);(case c=>k_is);(case k=>k_is)
  have D_law_names:L2.Def (L2.fj KX) mg (Str.ofString "_law_names") K13.cY:=by
   dsimp only[L2.fj]
   refine' L2.cf KX G ?a ?l ?c ?k
   (case a=>k_is);(case l=>k_is);(case c=>k_is);(case k=>k_is)
  have D_law_gate:L2.Def (L2.fj KX) mg (Str.ofString "_law_gate") K13.dq:=by
   dsimp only[L2.fj]
   refine' L2.cf KX G ?a ?l ?c ?k
   (case a=>k_is);(case l=>k_is);(case c=>k_is);(case k=>k_is)
  have D_law_again:L2.Def (L2.fj KX) mg (Str.ofString "_law_again") K13.cT:=by
   dsimp only[L2.fj]
   refine' L2.cf KX G ?a ?l ?c ?k
   (case a=>k_is);(case l=>k_is);(case c=>k_is);(case k=>k_is)
  have D_law_outs:L2.Def (L2.fj KX) mg (Str.ofString "_law_outs") K13.dw:=by
   dsimp only[L2.fj]
   refine' L2.cf KX G ?a ?l ?c ?k
   (case a=>k_is);(case l=>k_is);(case c=>k_is);(case k=>k_is)
  have D_law_net:L2.Def (L2.fj KX) mg (Str.ofString "_law_net") K13.d7:=by
   dsimp only[L2.fj]
   refine' L2.cf KX G ?a ?l ?c ?k
   (case a=>k_is);(case l=>k_is);(case c=>k_is);(case k=>k_is)
  have D_law_bits:L2.Def (L2.fj KX) mg (Str.ofString "_law_bits") K13.dn:=by
   dsimp only[L2.fj]
   refine' L2.cf KX G ?a ?l ?c ?k
   (case a=>k_is);(case l=>k_is);(case c=>k_is);(case k=>k_is)
  have D_law_by_runs:L2.Def (L2.fj KX) mg (Str.ofString "_law_by_runs") K13.cj:=by
   dsimp only[L2.fj]
   refine' L2.cf KX G ?a ?l ?c ?k
   (case a=>k_is);(case l=>k_is);(case c=>k_is);(case k=>k_is)
  have D_law:L2.Def (L2.fj KX) mg (Str.ofString "law") K13.lX:=by
   dsimp only[L2.fj]
   refine' L2.cf KX G ?a ?l ?c ?k
   (case a=>k_is);(case l=>k_is);(case c=>k_is);(case k=>k_is)
  obtain⟨cl,CF⟩:∃cl,K13.Cf (L2.fj KX) mg cl:=by
   dsimp only[L2.fj]
   refine' K13.Ej KX G ?aC0 ?pg0 ?hd0 ?po0 ?sa0 ?mk0 ?kc0 ?n0_net ?n0_many_inputs ?n0_full ?n0_in_masks ?a_Bench___init__ ?i_Bench___init__ ?l_Bench___init__ ?de ?k_Bench___init__ ?a_Bench_tells ?i_Bench_tells ?l_Bench_tells ?ei ?k_Bench_tells ?a_Bench_readings ?i_Bench_readings ?l_Bench_readings ?dc ?k_Bench_readings ?a_Bench_column ?i_Bench_column ?l_Bench_column ?dP ?k_Bench_column
   (case aC0=>k_is)
   (case pg0=>k_is)
   (case hd0=>k_is)
   (case po0=>k_is)
   (case sa0=>k_is)
   (case mk0=>k_is)
   (case kc0=>k_is)
   (case n0_net=>k_is)
   (case n0_many_inputs=>k_is)
   (case n0_full=>k_is)
   (case n0_in_masks=>k_is)
   (case a_Bench___init__=>k_is)
   (case i_Bench___init__=>k_is)
   (case l_Bench___init__=>k_is)
   (case de=>k_is)
   (case k_Bench___init__=>k_is)
   (case a_Bench_tells=>k_is)
   (case i_Bench_tells=>k_is)
   (case l_Bench_tells=>k_is)
   (case ei=>k_is)
   (case k_Bench_tells=>k_is)
   (case a_Bench_readings=>k_is)
   (case i_Bench_readings=>k_is)
   (case l_Bench_readings=>k_is)
   (case dc=>k_is)
   (case k_Bench_readings=>k_is)
   (case a_Bench_column=>k_is)
   (case i_Bench_column=>k_is)
   (case l_Bench_column=>k_is)
   (case dP=>k_is)
   (case k_Bench_column=>k_is)
  have D_Bench___init__:=CF.D_Bench___init__
  have D_Bench_tells:=CF.D_Bench_tells
  have D_Bench_readings:=CF.D_Bench_readings
  have D_Bench_column:=CF.D_Bench_column
  have T:K13.Tp (L2.fj KX) mg cl:=by
   dsimp only[L2.fj]
   refine' ⟨PySem.W.mg_none_of KX G ?z_enumerate,PySem.W.mg_none_of KX G ?z_range,PySem.W.mg_none_of KX G ?z_len,PySem.W.mg_none_of KX G ?z_tuple,PySem.W.mg_none_of KX G ?z_reversed,PySem.W.mg_none_of KX G ?z_all,PySem.W.mg_none_of KX G ?z_abs,PySem.W.mg_none_of KX G ?z_min,PySem.W.mg_none_of KX G ?z_sum,PySem.W.mg_none_of KX G ?z_isinstance,PySem.W.mg_none_of KX G ?z_bool,PySem.W.mg_none_of KX G ?z_int,CF.C_Bench,CF.N_Bench_net,CF.N_Bench_many_inputs,CF.N_Bench_full,CF.N_Bench_in_masks,CF.M_Bench⟩
   (case z_enumerate=>k_is);(case z_range=>k_is);(case z_len=>k_is);(case z_tuple=>k_is);(case z_reversed=>k_is);(case z_all=>k_is);(case z_abs=>k_is);(case z_min=>k_is);(case z_sum=>k_is);(case z_isinstance=>k_is);(case z_bool=>k_is);(case z_int=>k_is)
  obtain⟨fl,fd,Fl,hl⟩:=D_law
  have e0:=hmg.symm.trans hl
  cases e0
  refine' ⟨fd,?b,fun base kb nb=>K13.B8 T D_vote_of D_gate_mask D_in_wire_masks D_masks_at D_wire_masks D_out_masks D_run D_reading D_bit_at D_read_at D_told D_all_inputs D_mask_of D_in_mask D_Bench___init__ D_Bench_tells D_Bench_readings D_is_sound D_Bench_column D_columns D_law_cell_at D_law_reel D_law_take D_law_names D_law_gate D_law_again D_law_outs D_law_net D_law_bits D_law_by_runs Fl⟩
  obtain⟨_,_,_,_,_,_,_,_,_,e,_,_⟩:=Fl.ex
  subst e
  exact fun s u=> .of_eq rfl
