import PyProof.Rows.All
import Wide.All
import OpenK.AllK
import Wide.FinOn
import Lean
import PyProof.EqAt
import PyProof.EqKinds
import PyProof.TupleCall
import PyProof.Rows.StrJoin2
import PyProof.TupleOfGen
import PyProof.ListRange
import PyProof.Draws
import PyProof.Rows.StrClose3
import KE.KSortedM
import PyProof.Rows.SortWalk
import PyProof.WalkInts
import PyProof.Rows.Range3
import PyProof.ZipIter
import PyProof.ConsumeWalk
import PyProof.Rows.SeqMore
import KE.KRevIter
import KE.KRevSl
import KE.KUnpack
import PySem.Challenge.RW_bearfaults_k11_outs_read_and_columns
noncomputable section
set_option bootstrap.genMatcherCode false
def PySem.W.Fast.tw932433539658930372:=0
def PySem.W.Fast.tw10998146750113578214:=0
def PySem.W.Fast.tw4653752817550246249:=0
def PySem.W.Fast.tw14915696947607790213:=0
def PySem.W.Fast.tw8806003445728207997:=0
def PySem.W.Fast.tw5371723970884224142:=0
def PySem.W.Fast.tw5753267805927192502:=0
def PySem.W.Fast.tw9377148177022360998:=0
def PySem.W.Fast.tw10111173765943484632:=0
def PySem.W.Fast.tw1689166890092721413:=0
def PySem.W.Fast.tw3962317511846196061:=0
def PySem.W.Fast.tw16278545685127657991:=0
def PySem.W.Fast.tw11468935516978074228:=0
def PySem.W.Fast.tw10500737217407370164:=0
def PySem.W.Fast.tw3299991326980845022:=0
def PySem.W.Fast.tw385989015345872040:=0
def PySem.W.Fast.tw11603060678716747088:=0
def PySem.W.Fast.tw10971356935116819134:=0
def PySem.W.Fast.tw5597209245792493467:=0
def PySem.W.Fast.tw17863051311486966392:=0
def PySem.W.Fast.tw12784539082807548878:=0
def PySem.W.Fast.tw17378169672825904627:=0
def PySem.W.Fast.tw1098567460211019865:=0
def PySem.W.Fast.tw15360800687210380601:=0
def PySem.W.Fast.tw2272028069917930190:=0
def PySem.W.Fast.tw15495535503571963874:=0
def PySem.W.Fast.tw733328620404046657:=0
def PySem.W.Fast.tw18154487954539464096:=0
def PySem.W.Fast.tw14738387584699622941:=0
def PySem.W.Fast.tw5579574829732664548:=0
def PySem.W.Fast.tw8434735724386270457:=0
def PySem.W.Fast.tw508037501949041611:=0
def PySem.W.Fast.tw18344717887168592657:=0
def PySem.W.Fast.tw4824821821660694709:=0
def PySem.W.Fast.tw9034829066135923352:=0
def PySem.W.Fast.tw5409929917881006294:=0
def PySem.W.Fast.tw12642024448525760153:=0
def PySem.W.Fast.tw5459166136816050080:=0
def PySem.W.Fast.tw4454281518393009849:=0
def PySem.W.Fast.tw5378141897828042820:=0
set_option Elab.async false
set_option linter.all false
set_option maxRecDepth 100000
set_option maxHeartbeats 4000000
section
set_option maxRecDepth 100000
namespace L2
open PySem PySem.Spec PyProof.Rows
noncomputable abbrev Key:=Sum Int Str
noncomputable def rM:Key→Value→Bool
 | .inl k,v=>Value.isInt k v
 | .inr x,v=>Value.isStrOf x v
noncomputable def Jn(w:World):Key→Int
 | .inl k=>hashInt k
 | .inr x=>hashStr w x
theorem dy:∀{k:Key} {v:Value},rM k v=true→(∃i t,k=Sum.inl i∧v=Value.int i t)∨(∃x t,k=Sum.inr x∧v=Value.str x t)
 | .inl i,v,h=>by
   obtain⟨t,e⟩:=Value.isInt_shape (k:=i) (v:=v) h
   exact .inl ⟨i,t,rfl,e⟩
 | .inr x,v,h=>by
   obtain⟨t,e⟩:=Value.isStrOf_shape (x:=x) (v:=v) h
   exact .inr ⟨x,t,rfl,e⟩
theorem zB(i:Int)(t:Tok):rM (.inl i) (.int i t)=true:=by simp [rM,Value.isInt]
theorem ze(x:Str)(t:Tok):rM (.inr x) (.str x t)=true:=by simp [rM,Value.isStrOf]
theorem Fo(a b:Int):decide ((Sum.inl a:Key)=Sum.inl b)=(a==b):=by
 by_cases e:a=b
 ·subst e;simp
 ·have h:¬(Sum.inl a:Key)=Sum.inl b:=fun q=>e (Sum.inl.inj q)
  rw[decide_eq_false h]
  exact(beq_eq_false_iff_ne.mpr e).symm
theorem GW(a b:Str):decide ((Sum.inr a:Key)=Sum.inr b)=decide (a=b):=by
 by_cases e:a=b
 ·subst e;simp
 ·have h:¬(Sum.inr a:Key)=Sum.inr b:=fun q=>e (Sum.inr.inj q)
  rw[decide_eq_false h,decide_eq_false e]
theorem Fc(a:Int)(b:Str):decide ((Sum.inl a:Key)=Sum.inr b)=false:=decide_eq_false (fun q=>nomatch q)
theorem F8(a:Str)(b:Int):decide ((Sum.inr a:Key)=Sum.inl b)=false:=decide_eq_false (fun q=>nomatch q)
noncomputable def du(prog:Program)(w:World):PySem.KeyKind prog w Key where
 is:=rM
 hash:=Jn w
 inj:=fun v a b ha hb=>by
  rcases dy ha with⟨i,t,rfl,rfl⟩ | ⟨x,t,rfl,rfl⟩
  ·rcases dy hb with⟨j,u,rfl,e⟩ | ⟨y,u,rfl,e⟩
   ·injection e with e1 _;rw [e1]
   ·exact nomatch e
  ·rcases dy hb with⟨j,u,rfl,e⟩ | ⟨y,u,rfl,e⟩
   ·exact nomatch e
   ·injection e with e1 _;rw [e1]
 byValue:=fun k v h=>by
  rcases dy h with⟨i,t,rfl,rfl⟩ | ⟨x,t,rfl,rfl⟩ <;> rfl
 pyHash:=fun hv h=>by
  rcases dy hv with⟨i,t,rfl,rfl⟩ | ⟨x,t,rfl,rfl⟩
  ·exact wpAny_pyHash_int h
  ·exact wpAny_pyHash_str h
 eqBool:=fun hu hv h=>by
  rcases dy hu with⟨i,t,rfl,rfl⟩ | ⟨x,t,rfl,rfl⟩
  ·rcases dy hv with⟨j,u,rfl,rfl⟩ | ⟨y,u,rfl,rfl⟩
   ·rw[Fo] at h;exact wpAny_eqBool_int h
   ·rw[Fc] at h;exact SeqAt.EqAt.int_str i t y u _ _ _ _ h
  ·rcases dy hv with⟨j,u,rfl,rfl⟩ | ⟨y,u,rfl,rfl⟩
   ·rw[F8] at h;exact SeqAt.EqAt.str_int x t j u _ _ _ _ h
   ·rw[GW] at h;exact wpAny_eqBool_str h
 «strs»:=fun k x t v h=>by
  rcases dy h with⟨i,u,rfl,e⟩ | ⟨y,u,rfl,e⟩
  ·exact nomatch e
  ·injection e with e1 _
   subst e1
   cases v <;> rfl
theorem vy(prog:Program)(w:World)(i:Int)(t:Tok):(du prog w).is (.inl i) (.int i t)=true:=zB i t
theorem vE(prog:Program)(w:World)(x:Str)(t:Tok):(du prog w).is (.inr x) (.str x t)=true:=ze x t
end L2
namespace L2
open PySem PySem.Spec PyProof.Rows
inductive V where
 | cI | bl (b:Bool) | int (i:Int) | str (x:Str) | byt (b:Array UInt8) | flt (b:UInt64) | ref (a:Addr) | ty (n:String)
 deriving DecidableEq
noncomputable def RelV:V→Value→Prop
 | .cI,u=>u=Value.none
 | .bl b,u=>u=Value.bool b
 | .int i,u=>∃t,u=Value.int i t
 | .str x,u=>∃t,u=Value.str x t
 | .byt b,u=>∃t,u=Value.bytes b t
 | .flt b,u=>∃t,u=Value.float b t
 | .ref a,u=>u=Value.ref a
 | .ty n,u=>u=Value.type n
noncomputable abbrev Vals:List V→List Value→Prop:=Paired RelV
theorem Vals.length{xs:List V}{us:List Value}(r:Vals xs us):xs.length=us.length:=Paired.length r
theorem Vals.get:∀{xs:List V} {us:List Value} {i:Nat} {x:V},Vals xs us→xs[i]? =some x→∃u,us[i]? =some u∧RelV x u
 | _,_,_,_, .nil,e=>by simp at e
 | _,_,0,_, .cons r _,e=>by simp at e;subst e;exact⟨_,rfl,r⟩
 | _,_,i+1,x, .cons _ t,e=>by
   obtain⟨u,h1,h2⟩:=Vals.get (i:=i) (x:=x) t (by simpa using e)
   exact⟨u,by simpa using h1,h2⟩
theorem Vals.set{x:V}{u:Value}(r:RelV x u):∀{xs:List V} {us:List Value} (i:Nat),Vals xs us→Vals (xs.set i x) (us.set i u)
 | _,_,_, .nil=> .nil
 | _,_,0, .cons _ t=> .cons r t
 | _,_,i+1, .cons q t=> .cons q (Vals.set r i t)
theorem Vals.append:∀{xs ys:List V} {us ws:List Value},Vals xs us→Vals ys ws→Vals (xs++ys) (us++ws)
 | _,_,_,_, .nil,s=>s
 | _,_,_,_, .cons r t,s=> .cons r (Vals.append t s)
theorem Vals.take:∀{xs:List V} {us:List Value} (n:Nat),Vals xs us→Vals (xs.take n) (us.take n)
 | _,_,0,_=> .nil
 | _,_,_+1, .nil=> .nil
 | _,_,n+1, .cons r t=> .cons r (Vals.take n t)
theorem Vals.drop:∀{xs:List V} {us:List Value} (n:Nat),Vals xs us→Vals (xs.drop n) (us.drop n)
 | _,_,0,r=>r
 | _,_,_+1, .nil=> .nil
 | _,_,n+1, .cons _ t=>Vals.drop n t
noncomputable def mH:Option V→Option Value→Prop
 | some v,some u=>RelV v u
 | none,none=>True
 | _,_=>False
noncomputable def KV{κ:Type}:List (κ × V)→List (κ × Value)→Prop:=Paired fun(p:κ × V) (q:κ × Value)=>p.1=q.1∧RelV p.2 q.2
noncomputable def kV:Key→V
 | .inl i=> .int i
 | .inr x=> .str x
inductive HO where
 | lst (xs:List V)
 | tup (xs:List V)
 | dK (kvs:List (Key × V)) | dT (kvs:List (List Key × V))
 | set (S:Int→Bool) (n:Nat)
 | ins (C dx:Addr) (fs:List (Str × V))
 | own (x:Addr)
 | xd (fs:List (Str × V))
 | met (f x:Addr)
 | rng (lo hi:Int)
 | iA (o:Obj) (u:HO)
 | tbl (ps:Array Value)
 | ext (φ:Heap→Prop)
noncomputable abbrev Hp:=Addr→Option HO
noncomputable def upd(H:Hp)(a:Addr)(o:HO):Hp:=fun b=>if b=a then some o else H b
theorem a_{H:Hp}{a:Addr}{o:HO}:upd H a o a=some o:=by unfold upd;rw [if_pos rfl]
theorem bg{H:Hp}{a b:Addr}{o:HO}(h:b≠a):upd H a o b=H b:=by unfold upd;rw [if_neg h]
theorem Cs{H:Hp}{a:Addr}{o u:HO}:upd (upd H a o) a u=upd H a u:=by
 funext b;unfold upd;split <;> rfl
theorem bO{H:Hp}{a b:Addr}{o:HO}(h:H a=some o)(h':H b=none):a≠b:=by
 intro e;subst e;rw [h] at h';cases h'
section
variable (P:Program) (w:World)
noncomputable def dJ(H:Hp)(h:Heap)(a:Addr):HO→Prop
 | .lst xs=>xs.length≤sizeLine∧∃(its:List Value) (n:Nat),Vals xs its∧h.get? a=some {cls:= .type "list",data:= .seq its.toArray n}
 | .tup xs=>xs.length≤sizeLine∧∃its:List Value,Vals xs its∧IsTup h a its.toArray
 | .dK kvs=>kvs.length≤sizeLine∧(a==sysModules)=false∧∃vs,KV kvs vs∧h.DictOf (du P w) a vs
 | .dT kvs=>kvs.length≤sizeLine∧(a==sysModules)=false∧∃xs:List (List Key × Addr × Value),
    Paired (fun(p:List Key × V) (q:List Key × Addr × Value)=>p.1=q.1∧H q.2.1=some (.tup (p.1.map kV))∧RelV p.2 q.2.2) kvs xs∧
    ∃o es ep,h.get? a=some o∧o.ExactDict∧o.data= .dict es ep∧es.toList=xs.map (entryOfKey (tupleKind (du P w)))∧(xs.map (·.1)).Nodup
 | .set S n=>h.SetOf (intKind P w) a S n
 | .ins C dx fs=>H dx=some (.own a)∧fs.length≤1000∧dx≠a∧h.get? a=some (PySem.W.instObj C dx)∧
    ∃mA,h.Ns1 dx mA∧(∀f,mH (fs.lookup f) (mA f))∧PySem.Within mA (fs.map (·.1))
 | .own _=>∃o,h.get? a=some o
 | .xd fs=>∃mA,h.Ns1 a mA∧∀f,mH (fs.lookup f) (mA f)
 | .rng lo hi=>∃t u v,h.get? a=some {cls:= .type "range",data:= .fields #[.int lo t, .int hi u, .int 1 v]}
 | .iA o u=>h.get? a=some o∧dJ H h a u
 | .tbl ps=>h.get? a=some {cls:= .none,data:= .fields ps}
 | .met f x=>h.get? a=some (PySem.W.methodObj (.ref f) (.ref x))
 | .ext φ=>φ h∧(∃o,h.get? a=some o)∧∀h1 h2:Heap,φ h1→(∀o,h1.get? a=some o→h2.get? a=some o)→φ h2
noncomputable def mq(H:Hp)(h:Heap):Prop:=∀a o,H a=some o→dJ P w H h a o
end
section
variable {P:Program} {w:World} {H H':Hp} {h h':Heap} {a:Addr} {o:HO}
theorem dJ.lt(x:dJ P w H h a o):a < h.objs.size:=by
 cases o with
 | lst xs=>obtain⟨_,_,_,_,e⟩:=x;exact Heap.lt_size e
 | tup xs=>obtain⟨_,_,_,p⟩:=x;exact p.lt
 | dK kvs=>obtain⟨_,_,_,_,o,_,_,e,_⟩:=x;exact Heap.lt_size e
 | dT kvs=>obtain⟨_,_,_,_,o,_,_,e,_⟩:=x;exact Heap.lt_size e
 | set S n=>obtain⟨o,_,_,_,e,_⟩:=x;exact Heap.lt_size e
 | ins C dx fs=>obtain⟨_,_,_,e,_⟩:=x;exact Heap.lt_size e
 | own y=>obtain⟨_,e⟩:=x;exact Heap.lt_size e
 | xd fs=>obtain⟨_,⟨_,_,_,e,_⟩,_⟩:=x;exact Heap.lt_size e
 | rng lo hi=>obtain⟨_,_,_,e⟩:=x;exact Heap.lt_size e
 | iA ob u=>obtain⟨e,_⟩:=x;exact Heap.lt_size e
 | tbl ps=>exact Heap.lt_size (show h.get? a=some _ from x)
 | met f y=>exact Heap.lt_size (show h.get? a=some _ from x)
 | ext φ=>obtain⟨_,⟨_,e⟩,_⟩:=x;exact Heap.lt_size e
theorem Paired.Io{α β:Type}{F G:α→β→Prop}:∀{l₁:List α} {l₂:List β},Paired F l₁ l₂→(∀a b,F a b→G a b)→Paired G l₁ l₂
 | _,_, .nil,_=> .nil
 | _,_, .cons r t,f=> .cons (f _ _ r) (Paired.Io t f)
theorem dJ.wm(x:dJ P w H h a o)(k:∀b u,(b=a∨H b=some (.own a))→h.get? b=some u→h'.get? b=some u)
 (ho:∀b,H b=some (.own a)→H' b=some (.own a)) (ht:∀b xs,H b=some (.tup xs)→H' b=some (.tup xs)):dJ P w H' h' a o:=by
 induction o with
 | lst xs=>obtain⟨z,its,n,r,e⟩:=x;exact⟨z,its,n,r,k _ _ (.inl rfl) e⟩
 | tup xs=>obtain⟨z,its,r,ob,e,c⟩:=x;exact⟨z,its,r,ob,k _ _ (.inl rfl) e,c⟩
 | dK kvs=>obtain⟨z,y,vs,r,ob,es,ep,e,c⟩:=x;exact⟨z,y,vs,r,ob,es,ep,k _ _ (.inl rfl) e,c⟩
 | dT kvs=>
   obtain⟨z,y,xs,r,ob,es,ep,e,c⟩:=x
   exact⟨z,y,xs,Paired.Io r fun p q z=>⟨z.1,ht _ _ z.2.1,z.2.2⟩,ob,es,ep,k _ _ (.inl rfl) e,c⟩
 | set S n=>obtain⟨ob,es,ep,t,e,c⟩:=x;exact⟨ob,es,ep,t,k _ _ (.inl rfl) e,c⟩
 | ins C dx fs=>
   obtain⟨d,z,ne,e,mA,⟨od,es,ep,e2,c⟩,r⟩:=x
   exact⟨ho _ d,z,ne,k _ _ (.inl rfl) e,mA,⟨od,es,ep,k _ _ (.inr d) e2,c⟩,r⟩
 | own y=>obtain⟨ob,e⟩:=x;exact⟨ob,k _ _ (.inl rfl) e⟩
 | xd fs=>obtain⟨mA,⟨od,es,ep,e,c⟩,r⟩:=x;exact⟨mA,⟨od,es,ep,k _ _ (.inl rfl) e,c⟩,r⟩
 | rng lo hi=>obtain⟨t,u,v,e⟩:=x;exact⟨t,u,v,k _ _ (.inl rfl) e⟩
 | iA ob u ih=>obtain⟨e,q⟩:=x;exact⟨k _ _ (.inl rfl) e,ih q⟩
 | tbl ps=>
   have e:h.get? a=some {cls:= .none,data:= .fields ps}:=x
   show h'.get? a=some {cls:= .none,data:= .fields ps}
   exact k a _ (.inl rfl) e
 | met f y=>
   have e:h.get? a=some (PySem.W.methodObj (.ref f) (.ref y)):=x
   show h'.get? a=some (PySem.W.methodObj (.ref f) (.ref y))
   exact k a _ (.inl rfl) e
 | ext φ=>obtain⟨p,⟨o,e⟩,st⟩:=x;exact⟨st _ _ p fun o q=>k _ _ (.inl rfl) q,⟨o,k _ _ (.inl rfl) e⟩,st⟩
theorem mq.lt(x:mq P w H h)(e:H a=some o):a < h.objs.size:=(x a o e).lt
theorem mq.fresh(x:mq P w H h)(e:h.objs.size≤a):H a=none:=by
 cases q:H a with
 | none=>rfl
 | some u=>exact absurd (Nat.lt_of_lt_of_le (x.lt q) e) (Nat.lt_irrefl _)
theorem mq.kept(x:mq P w H h)(k:∀b u,h.get? b=some u→h'.get? b=some u):mq P w H h':=fun a o e=>
 (x a o e).wm (fun b u _ q=>k b u q) (fun _ q=>q) fun _ _ q=>q
theorem mq.laid(x:mq P w H h)(k:∀b u,h.get? b=some u→h'.get? b=some u)(hp:h.objs.size≤a)(new:dJ P w (upd H a o) h' a o):mq P w (upd H a o) h':=fun b u e=>by
 have hn:=x.fresh hp
 by_cases hb:b=a
 ·subst hb;rw [a_] at e;cases e;exact new
 ·rw[bg hb] at e
  exact(x b u e).wm (fun c v _ q=>k c v q) (fun c q=>by rw[bg (bO q hn)];exact q) fun c xs q=>by rw[bg (bO q hn)];exact q
end
noncomputable def Rd(H:Hp)(a:Addr)(u:HO):Prop:=H a=some u∨∃o,H a=some (.iA o u)
theorem Rd.ok{P:Program}{w:World}{H:Hp}{h:Heap}{a:Addr}{u:HO}(r:Rd H a u)(x:mq P w H h):dJ P w H h a u:=by
 rcases r with r | ⟨o,r⟩
 ·exact x a u r
 ·obtain⟨_,q⟩:=x a _ r
  exact q
noncomputable def G5:Option HO→Prop
 | some (.lst _)=>True
 | some (.dK _)=>True
 | some (.dT _)=>True
 | some (.set _ _)=>True
 | some (.ins _ _ _)=>True
 | some (.ext _)=>True
 | _=>False
section
variable {P:Program} {w:World} {H:Hp} {h h':Heap} {x e:Addr} {o':HO}
theorem mq.write(ok:mq P w H h)(mu:G5 (H x))(he:e=x∨H e=some (.own x))(k:∀b u,b≠e→h.get? b=some u→h'.get? b=some u)(heo:∃u,h'.get? e=some u)
 (new:dJ P w (upd H x o') h' x o'):mq P w (upd H x o') h':=fun b u q=>by
 have nown:∀c y,H c=some (.own y)→c≠x:=fun c y r z=>by subst z;rw [r] at mu;exact mu
 have ntup:∀c xs,H c=some (.tup xs)→c≠x:=fun c xs r z=>by subst z;rw [r] at mu;exact mu
 by_cases hb:b=x
 ·subst hb;rw [a_] at q;cases q;exact new
 ·rw[bg hb] at q
  by_cases hbe:b=e
  ·have q':H b=some (.own x):=by
    rcases he with z | z
    ·exact absurd (hbe.trans z) hb
    ·rw[hbe];exact z
   rw[q] at q';cases q'
   obtain⟨v,hv⟩:=heo
   exact⟨v,by rw[hbe];exact hv⟩
  ·refine(ok b u q).wm (fun c v hc r=>k c v ?_ r) (fun c r=>by rw[bg (nown c b r)];exact r) fun c xs r=>by rw[bg (ntup c xs r)];exact r
   rcases hc with rfl | hc
   ·exact hbe
   ·rintro rfl
    rcases he with z | z
    ·exact nown c b hc z
    ·rw[hc] at z;cases z;exact hb rfl
end
structure Un (fs ex:List Addr) (H H':Hp) (h h':Heap):Prop where
 keep:∀b o,h.get? b=some o→H b=none→b ∉ fs→b ∉ ex→h'.get? b=some o
 slot:∀b o,h.get? b=some o→H b=none→b∈fs→b ∉ ex→∃sl,h'.get? b=some {o with slots:=sl}
 free:∀b o,h.get? b=some o→H b=none→b ∉ ex→H' b=none
 there:∀b o,h.get? b=some o→b ∉ ex→∃o',h'.get? b=some o'
 tups:∀b xs,H b=some (.tup xs)→H' b=some (.tup xs)
 frzs:∀b o u,H b=some (.iA o u)→H' b=some (.iA o u)
 tbls:∀b ps,H b=some (.tbl ps)→∃more,H' b=some (.tbl (ps++more))
section
variable {fs fs' ex ex':List Addr} {H H1 H2:Hp} {h h1 h2 h':Heap} {a x e:Addr} {o:HO}
theorem Un.any(u:Un fs ex H H1 h h1){b:Addr}{ob:Obj}(q:h.get? b=some ob)(n:H b=none)(hx:b ∉ ex):∃sl,h1.get? b=some {ob with slots:=sl}:=by
 by_cases hb:b∈fs
 ·exact u.slot b ob q n hb hx
 ·exact⟨ob.slots,u.keep b ob q n hb hx⟩
theorem Un.kept(k:∀b u,h.get? b=some u→h'.get? b=some u):Un fs ex H H h h':=
 ⟨fun b ob q _ _ _=>k b ob q,fun b ob q _ _ _=>⟨ob.slots,k b ob q⟩,fun _ _ _ n _=>n,fun b ob q _=>⟨ob,k b ob q⟩,fun _ _ q=>q,fun _ _ _ q=>q,fun _ ps q=>⟨#[],by rw[q];simp⟩⟩
theorem Un.refl:Un fs ex H H h h:=Un.kept fun _ _ q=>q
theorem Un.laid(k:∀b u,h.get? b=some u→h'.get? b=some u)(hp:h.objs.size≤a)(hn:H a=none):Un fs ex H (upd H a o) h h' where
 keep:=fun b u q _ _ _=>k b u q
 slot:=fun b u q _ _ _=>⟨u.slots,k b u q⟩
 free:=fun b u q n _=>by rw[bg (Nat.ne_of_lt (Nat.lt_of_lt_of_le (Heap.lt_size q) hp))];exact n
 there:=fun b u q _=>⟨u,k b u q⟩
 tups:=fun b xs q=>by rw[bg (bO q hn)];exact q
 frzs:=fun b u xs q=>by rw[bg (bO q hn)];exact q
 tbls:=fun b ps q=>⟨#[],by rw[bg (bO q hn),q];simp⟩
theorem Un.write(mu:G5 (H x))(he:e=x∨H e=some (.own x))(k:∀b u,b≠e→h.get? b=some u→h'.get? b=some u)(heo:∃u,h'.get? e=some u):Un fs ex H (upd H x o) h h':=by
 have hx:∀b,H b=none→b≠x:=fun b n z=>by subst z;rw [n] at mu;exact mu
 have hb:∀b,H b=none→b≠e:=fun b n z=>by
  subst z
  rcases he with r | r
  ·exact hx b n r
  ·rw[n] at r;cases r
 have hm:∀b u,H b=some u→¬G5 (some u)→b≠x:=fun b u q nm z=>by subst z;rw [q] at mu;exact nm mu
 refine⟨fun b u q n _ _=>k b u (hb b n) q,fun b u q n _ _=>⟨u.slots,k b u (hb b n) q⟩,fun b u q n _=>by rw[bg (hx b n)];exact n,fun b u q _=>?_,
  fun b xs q=>by rw[bg (hm b _ q fun z=>z)];exact q,fun b u xs q=>by rw[bg (hm b _ q fun z=>z)];exact q,fun b ps q=>⟨#[],by rw[bg (hm b _ q fun z=>z),q];simp⟩⟩
 by_cases hbe:b=e
 ·subst hbe;exact heo
 ·exact⟨u,k b u hbe q⟩
end
noncomputable def IT(h:Heap)(H:Hp):List Addr:=(List.range h.objs.size).filter fun a=>(H a).isSome
noncomputable def tj(h:Heap)(H:Hp):Heap:=PySem.W.hideAll h (IT h H)
theorem zi(h:Heap)(H:Hp):(tj h H).objs.size=h.objs.size:=PySem.W.hideAll_size _ _
theorem Bj{h:Heap}{H:Hp}{b:Addr}{o:Obj}(e:h.get? b=some o)(n:H b=none):(tj h H).get? b=some o:=
 PySem.W.hideAll_get _ e fun hm=>by
  have q:(H b).isSome=true:=(List.mem_filter.mp hm).2
  rw[n] at q;simp at q
theorem Dx{h:Heap}{H:Hp}{b:Addr}{o:Obj}(e:(tj h H).get? b=some o):h.get? b=some o∧H b=none:=by
 have e':h.get? b=some o:=PySem.W.of_hideAll (IT h H) e
 refine⟨e',?_⟩
 cases q:H b with
 | none=>rfl
 | some x=>
   have hm:b∈IT h H:=List.mem_filter.mpr ⟨List.mem_range.mpr (Heap.lt_size e'),by simp [q]⟩
   have z:(tj h H).get? b=none:=PySem.W.hideAll_none (IT h H) hm
   rw[z] at e;cases e
noncomputable def CL(g h:Heap)(L:Addr):List (Addr × Obj):=(List.range h.objs.size).filterMap fun a=>if a=L∨(g.get? a).isSome=true then none else(h.get? a).map fun o=>(a,o)
noncomputable def rest(g h:Heap)(L d:Addr):List (Addr × Obj):=(CL g h L).filter fun p=>decide (p.1≠d)
end L2
namespace L2
open PySem PySem.Spec PyProof.Rows
structure Mod (K:PySem.W.Frag) (mg:Str→Option Value) (base:Heap):Prop where
 kin:K.In base
 glob:base.Ns mainGlobals mg
 blt:∃mb,base.Ns builtinsNs mb∧∀x:Str,x≠"__name__"→mb x=bootBuiltins x
 nolimit:base.NoLimit
structure Cx where
 prog:Program
 w:World
 K:PySem.W.Frag
 mg:Str→Option Value
 base:Heap
 A:Around
 N:List Str
 s₀:Shared
 H₀:Hp
 env:Env
 outer:List Env
 stack:List Env
 ex:List Addr
 fn:Str→Bool
 calm:Bool
 pn:List (Addr × Obj)
 xe:Value→Shared→Prop
noncomputable def zI(l:List Env):List Addr:=l.filterMap (·.frame)
noncomputable abbrev Cx.fs(X:Cx):List Addr:=zI X.outer
noncomputable def Eg(sc:Scope)(x:Str):Prop:=sc.names.lookup x=some .local∨sc.names.lookup x=some .cell∨sc.names.lookup x=some .free
noncomputable def Loc(sc:Scope)(x:Str):Prop:=sc.names.lookup x=some .local∨sc.names.lookup x=some .cell
noncomputable def Look(env:Env)(h:Heap)(m:Str→Option Value)(x:Str)(u:Value):Prop:=
 (env.kindOf x=some .local∧m x=some u)∨((env.kindOf x=some .cell∨env.kindOf x=some .free)∧∃c,env.cells.lookup x=some c∧h.IsCell c (some u))
structure Cx.Ok (X:Cx):Prop where
 mod:Mod X.K X.mg X.base
 kind:X.env.scope.kind= .function
 glob:X.env.globals=mainGlobals
 blt:X.env.builtins=builtinsNs
 above:X.s₀.heap.objs.size≤X.env.locals
 inj:∀x y c,X.env.cells.lookup x=some c→X.env.cells.lookup y=some c→x=y
 has:∀x,(X.env.kindOf x=some .cell∨X.env.kindOf x=some .free)→∃c,X.env.cells.lookup x=some c
 cab:∀x c,X.fn x=true→X.env.cells.lookup x=some c→X.s₀.heap.objs.size≤c
 hd:X.calm=true→X.A.handled=none
 frames:X.A.frames=some X.stack
 stk:X.stack=X.outer∨(X.stack=X.env ::X.outer∧X.env.frame=some X.env.locals)
 exf:∀b∈X.ex,b≠X.env.locals∧∀x c,X.env.cells.lookup x=some c→c≠b
 bs:∀b o,X.base.get? b=some o→X.s₀.heap.get? b=some o∧X.H₀ b=none
 bsz:X.base.objs.size≤X.s₀.heap.objs.size
 noex:∀b o,X.base.get? b=some o→b ∉ X.ex
 exfs:∀b∈X.ex,b ∉ X.fs
 pk:X.s₀.heap.FunFrames X.base X.outer
 frf:∀b∈X.fs,X.H₀ b=none
structure Inv (X:Cx) (pins:List (Addr × Obj)) (σ:List (Option V)) (H:Hp) (s:Shared):Prop where
 ok:X.Ok
 os:s.os=X.s₀.os
 bare:AllBare s.gens
 base:Un X.fs X.ex X.H₀ H X.s₀.heap s.heap
 loc:∃m,s.heap.Ns X.env.locals m∧∀(i:Nat) (x:Str) (v:V),X.N[i]? =some x→σ[i]? =some (some v)→Eg X.env.scope x→∃u,RelV v u∧Look X.env s.heap m x u
 cell:∀x c,X.env.cells.lookup x=some c→∃v,s.heap.IsCell c v
 free:H X.env.locals=none
 freeC:∀x c,X.env.cells.lookup x=some c→H c=none
 pin:∀p∈X.pn++pins,s.heap.get? p.1=some p.2∧H p.1=none∧p.1≠X.env.locals∧p.1 ∉ X.fs∧∀v,p.2.data≠ .cell v
 hok:mq X.prog X.w H s.heap
 len:σ.length=X.N.length
section
variable {X:Cx} {pins:List (Addr × Obj)} {σ:List (Option V)} {H H':Hp} {s:Shared} {h':Heap}
theorem Cx.Ok.JI(ok:X.Ok){b:Addr}{o:Obj}(e:X.base.get? b=some o):b ∉ X.fs:=fun hb=>by
 have:=(ok.pk.mem hb).1
 rw[e] at this;cases this
theorem Inv.bs(I:Inv X pins σ H s):∀b o,X.base.get? b=some o→s.heap.get? b=some o∧H b=none:=fun b o e=>
 ⟨I.base.keep b o (I.ok.bs b o e).1 (I.ok.bs b o e).2 (I.ok.JI e) (I.ok.noex b o e),I.base.free b o (I.ok.bs b o e).1 (I.ok.bs b o e).2 (I.ok.noex b o e)⟩
theorem Inv.bk(I:Inv X pins σ H s):∀b o,X.base.get? b=some o→s.heap.get? b=some o:=fun b o e=>(I.bs b o e).1
theorem Inv.mod(I:Inv X pins σ H s):Mod X.K X.mg X.base:=I.ok.mod
theorem Inv.nC(I:Inv X pins σ H s):X.K.In s.heap:=I.ok.mod.kin.keeps I.bk
theorem Inv.lt(I:Inv X pins σ H s):X.env.locals < s.heap.objs.size:=let⟨_,hn,_⟩:=I.loc;hn.lt
theorem Inv.sz(I:Inv X pins σ H s):X.s₀.heap.objs.size≤s.heap.objs.size:=Nat.le_trans I.ok.above (Nat.le_of_lt I.lt)
theorem Inv.JT(I:Inv X pins σ H s){a:Addr}(h:s.heap.objs.size≤a):a ∉ X.fs:=fun hb=>by
 obtain⟨_,o,ho,_⟩:=I.ok.pk.mem hb
 exact absurd (Nat.lt_of_lt_of_le (Heap.lt_size ho) (Nat.le_trans I.sz h)) (Nat.lt_irrefl _)
theorem Inv.GL(I:Inv X pins σ H s):∀x c,X.env.cells.lookup x=some c→c≠X.env.locals:=fun x c e z=>by
 obtain⟨v,o,ho,hd⟩:=I.cell x c e
 obtain⟨m,⟨o',es,ep,ho',hd',_⟩,_⟩:=I.loc
 rw[z,ho'] at ho;cases ho;rw [hd'] at hd;cases hd
theorem Inv.pk(I:Inv X pins σ H s):s.heap.FunFrames X.base X.outer:=by
 have all:∀(l:List Env),(∀b∈zI l,b∈X.fs)→X.s₀.heap.FunFrames X.base l→s.heap.FunFrames X.base l:=by
  intro l
  induction l with
  | nil=>intro _ _;trivial
  | cons env r ih=>
    intro hs hl
    obtain⟨hk,⟨L,o,hf,hn,ho,hd⟩,hr⟩:=hl
    have hL:L∈X.fs:=hs L (by unfold zI;rw [List.filterMap_cons,hf];exact List.mem_cons_self)
    obtain⟨sl,e⟩:=I.base.slot L o ho (I.ok.frf L hL) hL fun z=>I.ok.exfs L z hL
    exact⟨hk,⟨L,_,hf,hn,e,hd⟩,ih (fun b hb=>hs b (by unfold zI;rw [List.filterMap_cons,hf];exact List.mem_cons_of_mem _ hb)) hr⟩
 exact all X.outer (fun _ hb=>hb) I.ok.pk
theorem Inv.stack(I:Inv X pins σ H s):s.heap.FunFrames X.base X.stack:=by
 rcases I.ok.stk with e | ⟨e,hf⟩
 ·rw[e];exact I.pk
 ·rw[e]
  obtain⟨m,hn,_⟩:=I.loc
  refine .cons (by rw[I.ok.kind];decide) hf hn ?_ I.pk
  exact Heap.get?_none_of_le (Nat.le_trans I.ok.bsz I.ok.above)
theorem Inv.wx(I:Inv X pins σ H s):∀b∈zI X.stack,b∈X.env.locals ::X.fs:=fun b hb=>by
 rcases I.ok.stk with e | ⟨e,hf⟩
 ·rw[e] at hb;exact List.mem_cons_of_mem _ hb
 ·rw[e] at hb
  unfold zI at hb
  rw[List.filterMap_cons,hf] at hb
  exact hb
theorem Inv.ym(I:Inv X pins σ H s):∀b∈zI X.stack,H b=none:=fun b hb=>by
 rcases List.mem_cons.mp (I.wx b hb) with e | hb
 ·rw[e];exact I.free
 ·obtain⟨_,o,ho,_⟩:=I.ok.pk.mem hb
  exact I.base.free b o ho (I.ok.frf b hb) fun z=>I.ok.exfs b z hb
theorem Inv.step{g':Array GenState}{t':Nat}{d':Drawn}{ch:List Addr}(I:Inv X pins σ H s)
 (hch:∀b∈ch,(b∈X.ex∨X.s₀.heap.objs.size≤b)∧b≠X.env.locals∧(∀x c,X.env.cells.lookup x=some c→c≠b)∧∀p∈X.pn++pins,p.1≠b)
 (keep:∀b o,b≠X.env.locals→b ∉ X.fs→b ∉ ch→s.heap.get? b=some o→H b=none→h'.get? b=some o)
 (slot:∀b o,b≠X.env.locals→b∈X.fs→b ∉ ch→s.heap.get? b=some o→H b=none→∃sl,h'.get? b=some {o with slots:=sl}) (free:∀b o,b ∉ ch→s.heap.get? b=some o→H b=none→H' b=none)
 (there:∀b o,b ∉ ch→s.heap.get? b=some o→∃o',h'.get? b=some o')
 (tups:∀b xs,H b=some (.tup xs)→H' b=some (.tup xs)) (frzs:∀b o u,H b=some (.iA o u)→H' b=some (.iA o u)) (tbls:∀b ps,H b=some (.tbl ps)→∃more,H' b=some (.tbl (ps++more)))
 (ns:∀m,s.heap.Ns X.env.locals m→h'.Ns X.env.locals m) (hok:mq X.prog X.w H' h') (hg:AllBare g') :
 Inv X pins σ H' {s with heap:=h',gens:=g',drawn:=d',toks:=t'}:=by
 have neL:∀b o,X.s₀.heap.get? b=some o→b≠X.env.locals:=fun b o e=>Nat.ne_of_lt (Nat.lt_of_lt_of_le (Heap.lt_size e) I.ok.above)
 have neC:∀b o,X.s₀.heap.get? b=some o→b ∉ X.ex→b ∉ ch:=fun b o e hx hb=>by
  rcases(hch b hb).1 with z | z
  ·exact hx z
  ·exact absurd (Nat.lt_of_lt_of_le (Heap.lt_size e) z) (Nat.lt_irrefl _)
 have cellK:∀x c,X.env.cells.lookup x=some c→∀v,s.heap.IsCell c v→h'.IsCell c v:=fun x c e v ⟨o,ho,hd⟩=>by
  have nch:c ∉ ch:=fun z=>(hch c z).2.2.1 x c e rfl
  by_cases hc:c∈X.fs
  ·obtain⟨sl,q⟩:=slot c o (I.GL x c e) hc nch ho (I.freeC x c e)
   exact⟨_,q,hd⟩
  ·exact⟨o,keep c o (I.GL x c e) hc nch ho (I.freeC x c e),hd⟩
 refine⟨I.ok,I.os,hg,⟨fun b o e n hb hx=>?_,fun b o e n hb hx=>?_,fun b o e n hx=>?_,fun b o e hx=>?_,fun b xs e=>tups b xs (I.base.tups b xs e),fun b o xs e=>frzs b o xs (I.base.frzs b o xs e),fun b ps e=>?_⟩,?_,fun x c e=>?_,?_,fun x c e=>?_,fun p hp=>?_,hok,I.len⟩
 ·exact keep b o (neL b o e) hb (neC b o e hx) (I.base.keep b o e n hb hx) (I.base.free b o e n hx)
 ·obtain⟨sl,e1⟩:=I.base.slot b o e n hb hx
  obtain⟨sl',e2⟩:=slot b _ (neL b o e) hb (neC b o e hx) e1 (I.base.free b o e n hx)
  exact⟨sl',e2⟩
 ·obtain⟨o',e1⟩:=I.base.there b o e hx
  exact free b o' (neC b o e hx) e1 (I.base.free b o e n hx)
 ·obtain⟨o',e1⟩:=I.base.there b o e hx
  exact there b o' (neC b o e hx) e1
 ·obtain⟨m1,e1⟩:=I.base.tbls b ps e
  obtain⟨m2,e2⟩:=tbls b _ e1
  exact⟨m1++m2,by rw[e2,Array.append_assoc]⟩
 ·obtain⟨m,hn,hl⟩:=I.loc
  refine⟨m,ns m hn,fun i x v e1 e2 e3=>?_⟩
  obtain⟨u,r,l⟩:=hl i x v e1 e2 e3
  refine⟨u,r,?_⟩
  rcases l with l | ⟨k,c,e,z⟩
  ·exact .inl l
  ·exact .inr ⟨k,c,e,cellK x c e _ z⟩
 ·obtain⟨v,z⟩:=I.cell x c e
  exact⟨v,cellK x c e v z⟩
 ·obtain⟨m,⟨o,_,_,ho,_⟩,_⟩:=I.loc
  exact free _ o (fun z=>(hch _ z).2.1 rfl) ho I.free
 ·obtain⟨v,o,ho,hd⟩:=I.cell x c e
  exact free c o (fun z=>(hch c z).2.2.1 x c e rfl) ho (I.freeC x c e)
 ·obtain⟨e,n,ne,nf,d⟩:=I.pin p hp
  have nch:p.1 ∉ ch:=fun z=>(hch p.1 z).2.2.2 p hp rfl
  exact⟨keep p.1 p.2 ne nf nch e n,free p.1 p.2 nch e n,ne,nf,d⟩
theorem Inv.un{t':Nat}(I:Inv X pins σ H s)(u:Un X.fs [] H H' s.heap h')(hok:mq X.prog X.w H' h'):Inv X pins σ H' {s with heap:=h',toks:=t'}:=by
 obtain⟨m,⟨o,es,ep,ho,r⟩,_⟩:=id I.loc
 obtain⟨sl,hL⟩:=u.any ho I.free (by simp)
 exact I.step (g':=s.gens) (d':=s.drawn) (ch:=[]) (fun _ z=>nomatch z) (fun b o _ hb _ e n=>u.keep b o e n hb (by simp)) (fun b o _ hb _ e n=>u.slot b o e n hb (by simp)) (fun b o _ e n=>u.free b o e n (by simp)) (fun b o _ e=>u.there b o e (by simp)) u.tups u.frzs u.tbls (fun m' hm=>by
  obtain⟨o',es',ep',ho',r'⟩:=hm
  rw[ho] at ho';cases ho'
  exact⟨_,es',ep',hL,r'⟩) hok I.bare
theorem Inv.call{g':Array GenState}{t':Nat}{d':Drawn}{ch:List Addr}(I:Inv X pins σ H s)(u:Un (zI X.stack) ch H H' s.heap h')(hok:mq X.prog X.w H' h')(hg:AllBare g')
 (hch:∀b∈ch,(b∈X.ex∨X.s₀.heap.objs.size≤b)∧b≠X.env.locals∧(∀x c,X.env.cells.lookup x=some c→c≠b)∧∀p∈X.pn++pins,p.1≠b) :
 Inv X pins σ H' {s with heap:=h',gens:=g',drawn:=d',toks:=t'}:=by
 obtain⟨m,⟨o,es,ep,ho,r⟩,_⟩:=id I.loc
 obtain⟨sl,hL⟩:=u.any ho I.free fun z=>(hch _ z).2.1 rfl
 exact I.step (ch:=ch) hch (fun b o hL hb hc e n=>u.keep b o e n (fun z=>(List.mem_cons.mp (I.wx b z)).elim hL hb) hc) (fun b o _ _ hc e n=>u.any e n hc) (fun b o hc e n=>u.free b o e n hc) (fun b o hc e=>u.there b o e hc) u.tups u.frzs u.tbls (fun m' hm=>by
  obtain⟨o',es',ep',ho',r'⟩:=hm
  rw[ho] at ho';cases ho'
  exact⟨_,es',ep',hL,r'⟩) hok hg
theorem Inv.turned{t':Nat}{it:Addr}(I:Inv X pins σ H s)(k:∀b o,b≠it→s.heap.get? b=some o→h'.get? b=some o)(hn:H it=none)(hL:it≠X.env.locals)
 (h1:it∈X.ex∨X.s₀.heap.objs.size≤it) (h2:∀x c,X.env.cells.lookup x=some c→c≠it) (h3:∀p∈X.pn++pins,p.1≠it):Inv X pins σ H {s with heap:=h',toks:=t'}:=by
 have nit:∀b u,H b=some u→b≠it:=fun b u e z=>by rw[z,hn] at e;cases e
 refine I.step (g':=s.gens) (d':=s.drawn) (ch:=[it]) (fun b hb=>?_) (fun b o _ _ hc e _=>k b o (fun z=>hc (by simp [z])) e) (fun b o _ _ hc e _=>⟨o.slots,k b o (fun z=>hc (by simp [z])) e⟩) (fun _ _ _ _ n=>n)
  (fun b o hc e=>⟨o,k b o (fun z=>hc (by simp [z])) e⟩) (fun _ _ e=>e) (fun _ _ _ e=>e) (fun b ps e=>⟨#[],by rw[e];simp⟩) (fun m hm=>?_) (fun b u e=>?_) I.bare
 ·have e:b=it:=by simpa using hb
  subst e
  exact⟨h1,hL,h2,h3⟩
 ·obtain⟨o,es,ep,ho,r⟩:=hm
  exact⟨o,es,ep,k _ o (Ne.symm hL) ho,r⟩
 ·refine(I.hok b u e).wm (fun c v hc q=>k c v ?_ q) (fun _ q=>q) fun _ _ q=>q
  rcases hc with z | z
  ·rw[z];exact nit b u e
  ·exact nit c _ z
theorem Inv.tok(I:Inv X pins σ H s)(t:Nat):Inv X pins σ H {s with toks:=t}:=I.un (h':=s.heap) (t':=t) Un.refl I.hok
theorem Inv.kept{t':Nat}(I:Inv X pins σ H s)(k:∀b u,s.heap.get? b=some u→h'.get? b=some u):Inv X pins σ H {s with heap:=h',toks:=t'}:=I.un (Un.kept k) (I.hok.kept k)
theorem Inv.laid{a:Addr}{o:HO}{t':Nat}(I:Inv X pins σ H s)(k:∀b u,s.heap.get? b=some u→h'.get? b=some u)(hp:s.heap.objs.size≤a)(new:dJ X.prog X.w (upd H a o) h' a o) :
 Inv X pins σ (upd H a o) {s with heap:=h',toks:=t'}:=I.un (Un.laid k hp (I.hok.fresh hp)) (I.hok.laid k hp new)
theorem Inv.write{x e:Addr}{o:HO}{t':Nat}(I:Inv X pins σ H s)(mu:G5 (H x))(he:e=x∨H e=some (.own x))(k:∀b u,b≠e→s.heap.get? b=some u→h'.get? b=some u)(heo:∃u,h'.get? e=some u)
 (new:dJ X.prog X.w (upd H x o) h' x o):Inv X pins σ (upd H x o) {s with heap:=h',toks:=t'}:=I.un (Un.write mu he k heo) (I.hok.write mu he k heo new)
theorem Inv.xp{pins':List (Addr × Obj)}(I:Inv X pins σ H s)(h:∀p∈pins',s.heap.get? p.1=some p.2∧H p.1=none∧p.1≠X.env.locals∧p.1 ∉ X.fs∧∀v,p.2.data≠ .cell v):Inv X pins' σ H s:=
 ⟨I.ok,I.os,I.bare,I.base,I.loc,I.cell,I.free,I.freeC,fun p hp=>(List.mem_append.mp hp).elim (fun z=>I.pin p (List.mem_append_left _ z)) (h p),I.hok,I.len⟩
theorem uT{N:List Str}(hN:N.Nodup){i j:Nat}{x:Str}(a:N[i]? =some x)(b:N[j]? =some x):i=j:=by
 obtain⟨h1,e1⟩:=List.getElem?_eq_some_iff.mp a
 obtain⟨h2,e2⟩:=List.getElem?_eq_some_iff.mp b
 exact(List.getElem_inj hN).mp (e1.trans e2.symm)
theorem sC{M:Model}{A:Around}{E:Value→Shared→Prop}{i:Nat}{x:Str}{v:V}{u:Value}{Q:Unit→Shared→Prop}(I:Inv X pins σ H s)(hN:X.N.Nodup)(hi:X.N[i]? =some x)(hx:Loc X.env.scope x)(r:RelV v u)
 (h:∀s',Inv X pins (σ.set i (some v)) H s'→(∃a,Heap.SameBut a s.heap s'.heap∧(a=X.env.locals∨X.env.cells.lookup x=some a))→Q () s') (hf:X.fn x=true∨X.env.scope.names.lookup x=some .local:=by first | exact .inl rfl | exact .inr rfl | assumption):wpAny M A (storeName X.env x u) Q E s:=by
 obtain⟨m,hn,hl⟩:=id I.loc
 have hcls:(X.env.scope.kind== .class || (X.env.scope.kind== .module && X.env.locals !=X.env.globals))=false:=by rw[I.ok.kind];rfl
 have hiσ:i < σ.length:=by rw[I.len];exact(List.getElem?_eq_some_iff.mp hi).1
 have GL:=I.GL
 have tracked:∀{a:Addr} {h':Heap},(∃o,s.heap.get? a=some o∧H a=none)→Heap.SameBut a s.heap h'→mq X.prog X.w H h':=fun {a h'} ha hs b ob e=>by
  obtain⟨_,_,hfree⟩:=ha
  refine(I.hok b ob e).wm (fun c w' hc q=>(hs.2 c ?_).trans q) (fun _ q=>q) fun _ _ q=>q
  rintro rfl
  rcases hc with rfl | hc
  ·rw[hfree] at e;cases e
  ·rw[hfree] at hc;cases hc
 rcases hx with hk | hk
 ·refine wpAny_storeName_local hk hn (fun h' hn' hs=>?_) hcls
  obtain⟨oL,_,_,hoL,_⟩:=id hn
  refine h _ ⟨I.ok,I.os,I.bare,⟨fun b o e n hb hx=>?_,fun b o e n hb hx=>?_,I.base.free,fun b o e hx=>?_,I.base.tups,I.base.frzs,I.base.tbls⟩,⟨_,hn',fun j y v' e1 e2 e3=>?_⟩,fun y c e=>?_,I.free,I.freeC,fun p hp=>?_,tracked ⟨oL,hoL,I.free⟩ hs,by simpa using I.len⟩ ⟨_,hs, .inl rfl⟩
  ·exact(hs.2 b (Nat.ne_of_lt (Nat.lt_of_lt_of_le (Heap.lt_size e) I.ok.above))).trans (I.base.keep b o e n hb hx)
  ·obtain⟨sl,e1⟩:=I.base.slot b o e n hb hx
   exact⟨sl,(hs.2 b (Nat.ne_of_lt (Nat.lt_of_lt_of_le (Heap.lt_size e) I.ok.above))).trans e1⟩
  ·obtain⟨o',e1⟩:=I.base.there b o e hx
   exact⟨o',(hs.2 b (Nat.ne_of_lt (Nat.lt_of_lt_of_le (Heap.lt_size e) I.ok.above))).trans e1⟩
  ·by_cases hj:j=i
   ·subst hj
    rw[hi] at e1;cases e1
    rw[List.getElem?_set_self hiσ] at e2
    cases e2
    exact⟨u,r, .inl ⟨hk,by simp⟩⟩
   ·rw[List.getElem?_set_ne (Ne.symm hj)] at e2
    obtain⟨u',r',q⟩:=hl j y v' e1 e2 e3
    refine⟨u',r',?_⟩
    rcases q with⟨k,e⟩ | ⟨k,c,e,z⟩
    ·refine .inl ⟨k,?_⟩
     have:y≠x:=fun e=>hj (uT hN e1 (e▸hi))
     simp [this,e]
    ·exact .inr ⟨k,c,e,z.sameBut hs (GL y c e)⟩
  ·obtain⟨w',z⟩:=I.cell y c e
   exact⟨w',z.sameBut hs (GL y c e)⟩
  ·obtain⟨e,n,ne,nf,d⟩:=I.pin p hp
   exact⟨(hs.2 p.1 ne).trans e,n,ne,nf,d⟩
 ·have hfn:X.fn x=true:=by
   rcases hf with z | z
   ·exact z
   ·rw[z] at hk;cases hk
  obtain⟨c,hc⟩:=I.ok.has x (.inl hk)
  obtain⟨w',z⟩:=I.cell x c hc
  refine wpAny_storeName_cell I.ok.kind hk hc z (fun h' hc' hs=>?_)
  obtain⟨oc,hoc,hocd⟩:=id z
  refine h {s with heap:=h'} ⟨I.ok,I.os,I.bare,⟨fun b o e n hb hx=>?_,fun b o e n hb hx=>?_,I.base.free,fun b o e hx=>?_,I.base.tups,I.base.frzs,I.base.tbls⟩,⟨m,hn.sameBut hs (Ne.symm (GL x c hc)),fun j y v' e1 e2 e3=>?_⟩,fun y c' e=>?_,I.free,I.freeC,fun p hp=>?_,tracked ⟨oc,hoc,I.freeC x c hc⟩ hs,by simpa using I.len⟩ ⟨c,hs, .inr hc⟩
  ·exact(hs.2 b (Nat.ne_of_lt (Nat.lt_of_lt_of_le (Heap.lt_size e) (I.ok.cab x c hfn hc)))).trans (I.base.keep b o e n hb hx)
  ·obtain⟨sl,e1⟩:=I.base.slot b o e n hb hx
   exact⟨sl,(hs.2 b (Nat.ne_of_lt (Nat.lt_of_lt_of_le (Heap.lt_size e) (I.ok.cab x c hfn hc)))).trans e1⟩
  ·obtain⟨o',e1⟩:=I.base.there b o e hx
   exact⟨o',(hs.2 b (Nat.ne_of_lt (Nat.lt_of_lt_of_le (Heap.lt_size e) (I.ok.cab x c hfn hc)))).trans e1⟩
  ·by_cases hj:j=i
   ·subst hj
    rw[hi] at e1;cases e1
    rw[List.getElem?_set_self hiσ] at e2
    cases e2
    exact⟨u,r, .inr ⟨.inl hk,c,hc,hc'⟩⟩
   ·rw[List.getElem?_set_ne (Ne.symm hj)] at e2
    obtain⟨u',r',q⟩:=hl j y v' e1 e2 e3
    refine⟨u',r',?_⟩
    rcases q with q | ⟨k,c',e,z'⟩
    ·exact .inl q
    ·refine .inr ⟨k,c',e,z'.sameBut hs ?_⟩
     rintro rfl
     exact hj (uT hN e1 (I.ok.inj _ _ _ e hc▸hi))
  ·by_cases hcc:c'=c
   ·subst hcc;exact⟨_,hc'⟩
   ·obtain⟨w2,z2⟩:=I.cell y c' e
    exact⟨w2,z2.sameBut hs hcc⟩
  ·obtain⟨e,n,ne,nf,d⟩:=I.pin p hp
   refine⟨(hs.2 p.1 ?_).trans e,n,ne,nf,d⟩
   intro q
   rw[q,hoc] at e
   have q':oc=p.2:=Option.some.inj e
   exact d w' (by rw[←q'];exact hocd)
theorem vm{M:Model}{A:Around}{E:Value→Shared→Prop}{i:Nat}{x:Str}{v:V}{u:Value}{Q:Unit→Shared→Prop}(I:Inv X pins σ H s)(hN:X.N.Nodup)(hi:X.N[i]? =some x)(hx:Loc X.env.scope x)(r:RelV v u)
 (h:∀s',Inv X pins (σ.set i (some v)) H s'→Q () s') (hf:X.fn x=true∨X.env.scope.names.lookup x=some .local:=by first | exact .inl rfl | exact .inr rfl | assumption):wpAny M A (storeName X.env x u) Q E s:=
 sC I hN hi hx r (fun s' I' _=>h s' I') hf
theorem Inv.HH{s':Shared}{ch:List Addr}(I:Inv X pins σ H s)(ho:s'.os=s.os)(u:Un (zI X.stack) ch H H' s.heap s'.heap)(hok:mq X.prog X.w H' s'.heap)(hg:AllBare s'.gens)
 (hch:∀b∈ch,(b∈X.ex∨X.s₀.heap.objs.size≤b)∧b≠X.env.locals∧(∀x c,X.env.cells.lookup x=some c→c≠b)∧∀p∈X.pn++pins,p.1≠b):Inv X pins σ H' s':=by
 obtain⟨h',g',d',t',o'⟩:=s'
 have e:o'=s.os:=ho
 subst e
 exact I.call (g':=g') (t':=t') (d':=d') u hok hg hch
end
noncomputable abbrev XK:=Value→Option Addr→Hp→Prop
noncomputable abbrev St:=List (Option V)
noncomputable abbrev VK:=V→Hp→Prop
noncomputable abbrev TE:=St→Hp→VK→Prop
noncomputable abbrev TT:=St→Hp→(Bool→Hp→Prop)→Prop
noncomputable abbrev TA:=St→Hp→(List V→Hp→Prop)→Prop
structure Ends where
 nx:St→Hp→Prop
 rt:VK
 bk:St→Hp→Prop:=fun _ _=>False
 ct:St→Hp→Prop:=fun _ _=>False
noncomputable abbrev TS:=Ends→St→Hp→Prop
noncomputable def EP(X:Cx)(pins:List (Addr × Obj))(σ:St)(Q:VK)(u:Value)(s':Shared):Prop:=∃v H',Inv X pins σ H' s'∧RelV v u∧Q v H'
noncomputable def TP(X:Cx)(pins:List (Addr × Obj))(σ:St)(Q:Bool→Hp→Prop)(b:Bool)(s':Shared):Prop:=∃H',Inv X pins σ H' s'∧Q b H'
noncomputable def AP(X:Cx)(pins:List (Addr × Obj))(σ:St)(Q:List V→Hp→Prop)(us:List Value)(s':Shared):Prop:=∃vs H',Inv X pins σ H' s'∧Vals vs us∧Q vs H'
noncomputable def SP(X:Cx)(pins:List (Addr × Obj))(D:Ends)(f:Flow)(s':Shared):Prop:=
 match f with
 | .next=>∃σ' H',Inv X pins σ' H' s'∧D.nx σ' H'
 | .brk=>∃σ' H',Inv X pins σ' H' s'∧D.bk σ' H'
 | .cont=>∃σ' H',Inv X pins σ' H' s'∧D.ct σ' H'
 | .ret u=>∃v σ' H',Inv X pins σ' H' s'∧RelV v u∧D.rt v H'
noncomputable def PE(X:Cx)(e:Expr)(t:TE):Prop:=
 ∀(pins:List (Addr × Obj)) (s:Shared) (σ:St) (H:Hp) (Q:VK),Inv X pins σ H s→t σ H Q→wpAny (model X.prog X.w) X.A (eval e X.env) (EP X pins σ Q) X.xe s
noncomputable def PT(X:Cx)(e:Expr)(t:TT):Prop:=
 ∀(pins:List (Addr × Obj)) (s:Shared) (σ:St) (H:Hp) (Q:Bool→Hp→Prop),Inv X pins σ H s→t σ H Q→wpAny (model X.prog X.w) X.A (isTrue e X.env (eval e X.env)) (TP X pins σ Q) X.xe s
noncomputable def PW(X:Cx)(e:Expr)(t:TT):Prop:=
 ∀(whole:Sem Value) (pins:List (Addr × Obj)) (s:Shared) (σ:St) (H:Hp) (Q:Bool→Hp→Prop),Inv X pins σ H s→t σ H Q→wpAny (model X.prog X.w) X.A (isTrue e X.env whole) (TP X pins σ Q) X.xe s
theorem PW.pt{X:Cx}{e:Expr}{t:TT}(h:PW X e t):PT X e t:=h _
noncomputable def PA(X:Cx)(es:List Expr)(t:TA):Prop:=
 ∀(pos:Pos) (pins:List (Addr × Obj)) (s:Shared) (σ:St) (H:Hp) (Q:List V→Hp→Prop),Inv X pins σ H s→t σ H Q→wpAny (model X.prog X.w) X.A (spliced (backTo pos (starEach es X.env))) (AP X pins σ Q) X.xe s
noncomputable def PS(X:Cx)(st:Stmt)(t:TS):Prop:=
 ∀(pins:List (Addr × Obj)) (s:Shared) (σ:St) (H:Hp) (D:Ends),Inv X pins σ H s→t D σ H→wpAny (model X.prog X.w) X.A (exec st X.env) (SP X pins D) X.xe s
noncomputable def uc(X:Cx)(st:List Stmt)(t:TS):Prop:=
 ∀(pins:List (Addr × Obj)) (s:Shared) (σ:St) (H:Hp) (D:Ends),Inv X pins σ H s→t D σ H→wpAny (model X.prog X.w) X.A (execs st X.env) (SP X pins D) X.xe s
theorem dQ{α:Type}{t:Sem α}{Q Q':α→Shared→Prop}{M:Model}{A:Around}{E:Value→Shared→Prop}{s:Shared}(h:wpAny M A t Q E s)(hQ:∀a s,Q a s→Q' a s):wpAny M A t Q' E s:=wpAny_mono h hQ fun _ _ x=>x
end L2
namespace L2
open PySem PySem.Spec PyProof.Rows
section
variable {X:Cx}
noncomputable def JB(i:Nat):TE:=fun σ H Q=>∃v,σ[i]? =some (some v)∧Q v H
noncomputable def tC(v:V):TE:=fun _ H Q=>Q v H
theorem sY{i:Nat}{x:Str}{pos:Pos}(hN:X.N[i]? =some x)(hv:Eg X.env.scope x)(hd:(x==("__debug__":Str))=false:=by decide)(hcd:(x==("__classdict__":Str))=false:=by decide):PE X (.Name x pos) (JB i):=by
 intro pins s σ H Q I h
 obtain⟨v,e,h⟩:=h
 obtain⟨m,hn,hl⟩:=I.loc
 obtain⟨u,r,l⟩:=hl i x v hN e hv
 have fin:EP X pins σ Q u s:=⟨v,H,I,r,h⟩
 rcases l with⟨hk,hm⟩ | ⟨hk,c,hc,hcell⟩
 ·exact wpAny_Name (wpAny_loadName_local I.ok.kind hk hn hm fin) hd
 ·rcases hk with hk | hk
  ·exact wpAny_Name (wpAny_loadName_cell I.ok.kind hk hc hcell fin) hd
  ·exact wpAny_Name (wpAny_loadName_free I.ok.kind hk hc hcell fin hcd) hd
theorem qD{i j pos}:PE X (.Constant (.int i) j pos) (tC (.int i)):=fun _ _ _ H _ I h=>wpAny_Constant_int ⟨.int i,H,I.tok _,⟨_,rfl⟩,h⟩
theorem G6{b j pos}:PE X (.Constant (.bool b) j pos) (tC (.bl b)):=fun _ _ _ H _ I h=>Constant_bool ⟨.bl b,H,I,rfl,h⟩
theorem E9{j pos}:PE X (.Constant .none j pos) (tC .cI):=fun _ _ _ H _ I h=>Constant_none ⟨.cI,H,I,rfl,h⟩
theorem pZ{x j pos}:PE X (.Constant (.str x) j pos) (tC (.str x)):=fun _ _ _ H _ I h=>Calls.Constant_str ⟨.str x,H,I.tok _,⟨_,rfl⟩,h⟩
noncomputable def Gl(X:Cx)(x:Str):Prop:=X.env.kindOf x=some .globalImplicit
theorem tm{E:Value→Shared→Prop}{pins:List (Addr × Obj)}{s:Shared}{σ:St}{H:Hp}{x:Str}{u:Value}{pos:Pos}{Q:Value→Shared→Prop}(I:Inv X pins σ H s)(hg:Gl X x)(hm:X.mg x=some u)(h:Q u s)
 (hd:(x==("__debug__":Str))=false:=by decide):wpAny (model X.prog X.w) X.A (eval (.Name x pos) X.env) Q E s:=
 Calls.Name_function_global I.ok.kind hg (Calls.loadGlobal_global (by rw[I.ok.glob];exact I.mod.glob.keeps I.bk) hm h) hd
theorem l7{E:Value→Shared→Prop}{pins:List (Addr × Obj)}{s:Shared}{σ:St}{H:Hp}{x:Str}{u:Value}{pos:Pos}{Q:Value→Shared→Prop}(I:Inv X pins σ H s)(hg:Gl X x)(hm:X.mg x=none)(hv:bootBuiltins x=some u)(h:Q u s)
 (hn:x≠"__name__":=by decide) (hd:(x==("__debug__":Str))=false:=by decide):wpAny (model X.prog X.w) X.A (eval (.Name x pos) X.env) Q E s:=by
 obtain⟨mb,h1,h2⟩:=I.mod.blt
 exact Calls.Name_function_global I.ok.kind hg (Calls.loadGlobal_builtin (by rw[I.ok.glob];exact I.mod.glob.keeps I.bk) hm (by rw[I.ok.blt];exact h1.keeps I.bk) ((h2 x hn).trans hv) h) hd
theorem C2{x:Str}{v:V}{u:Value}{pos:Pos}(hg:Gl X x)(hm:X.mg x=none)(hv:bootBuiltins x=some u)(r:RelV v u)(hn:x≠"__name__":=by decide)(hd:(x==("__debug__":Str))=false:=by decide):PE X (.Name x pos) (tC v):=
 fun _ _ _ H _ I h=>l7 I hg hm hv ⟨v,H,I,r,h⟩ hn hd
noncomputable def IH(ta tb:TE)(k:Int→Int→Hp→Prop):St→Hp→Prop:=fun σ H=>ta σ H fun x H1=>tb σ H1 fun y H2=>∃i j,x= .int i∧y= .int j∧k i j H2
noncomputable def Lf(ta tb:TE):TE:=fun σ H Q=>IH ta tb (fun i j H2=>Q (.int (i+j)) H2) σ H
noncomputable def KN(ta tb:TE):TE:=fun σ H Q=>IH ta tb (fun i j H2=>Q (.int (i - j)) H2) σ H
noncomputable def KO(ta tb:TE):TE:=fun σ H Q=>IH ta tb (fun i j H2=>(-(2 ^ 64) < i∧i < 2 ^ 64)∧Q (.int (i*j)) H2) σ H
variable {a b:Expr} {ta tb:TE} {pos:Pos}
noncomputable def PC(X:Cx)(op:CmpOp)(a b:Expr)(t:TE):Prop:=
 ∀(pins:List (Addr × Obj)) (s:Shared) (σ:St) (H:Hp) (Q:VK),Inv X pins σ H s→t σ H Q→
  wpAny (model X.prog X.w) X.A (eval a X.env) (fun v s₁=>wpAny (model X.prog X.w) X.A (eval b X.env) (fun u s₂=>wpAny (model X.prog X.w) X.A (compareOp op v u) (EP X pins σ Q) X.xe s₂) X.xe s₁) X.xe s
noncomputable def zc(p:Int→Int→Bool)(ta tb:TE):TE:=fun σ H Q=>IH ta tb (fun i j H2=>Q (.bl (p i j)) H2) σ H
noncomputable abbrev LZ:TE→TE→TE:=zc fun i j=>decide (i < j)
noncomputable abbrev LX:TE→TE→TE:=zc fun i j=>decide (i≤j)
noncomputable abbrev L7:TE→TE→TE:=zc fun i j=>decide (j < i)
noncomputable abbrev Mb:TE→TE→TE:=zc fun i j=>decide (j≤i)
noncomputable abbrev KR:TE→TE→TE:=zc fun i j=>decide (i=j)
noncomputable abbrev KW:TE→TE→TE:=zc fun i j=>!decide (i=j)
noncomputable def LN(ta:TE):TE:=fun σ H Q=>ta σ H fun x H1=>Q (.bl (decide (x= .cI))) H1
noncomputable def KD(ta:TE):TE:=fun σ H Q=>ta σ H fun x H1=>Q (.bl (!decide (x= .cI))) H1
noncomputable def tB(t:TE):TT:=fun σ H Q=>t σ H fun x H1=>∃c,x= .bl c∧Q c H1
variable {tA tB':TT} {rest:List Expr}
noncomputable def JY(t u:TT):TT:=fun σ H Q=>t σ H fun c H1=>if c=true then u σ H1 Q else Q false H1
noncomputable def LC(t u:TT):TT:=fun σ H Q=>t σ H fun c H1=>if c=true then Q true H1 else u σ H1 Q
noncomputable def JS(t:TT):TT:=fun σ H Q=>t σ H fun c H1=>Q (!c) H1
theorem xR(ha:PT X a tA):PW X (.BoolOp .And [a] pos) tA:=by
 intro wh pins s σ H Q I h
 refine isTrue_and (dQ (ha pins s σ H Q I h) fun c s1 e=>?_)
 cases c with
 | true=>exact isTrue_and_nil e
 | false=>exact e
theorem EX(ha:PT X a tA):PW X (.BoolOp .Or [a] pos) tA:=by
 intro wh pins s σ H Q I h
 refine isTrue_or (dQ (ha pins s σ H Q I h) fun c s1 e=>?_)
 cases c with
 | false=>exact isTrue_or_nil e
 | true=>exact e
theorem BJ(ha:PT X a tA)(hb:PW X (.BoolOp .And (b ::rest) pos) tB'):PW X (.BoolOp .And (a ::b ::rest) pos) (JY tA tB'):=by
 intro wh pins s σ H Q I h
 refine isTrue_and (dQ (ha pins s σ H _ I h) fun c s1 ⟨H1,I1,q1⟩=>?_)
 cases c with
 | true=>exact hb wh pins s1 σ H1 Q I1 q1
 | false=>exact⟨H1,I1,q1⟩
theorem He(ha:PT X a tA)(hb:PW X (.BoolOp .Or (b ::rest) pos) tB'):PW X (.BoolOp .Or (a ::b ::rest) pos) (LC tA tB'):=by
 intro wh pins s σ H Q I h
 refine isTrue_or (dQ (ha pins s σ H _ I h) fun c s1 ⟨H1,I1,q1⟩=>?_)
 cases c with
 | true=>exact⟨H1,I1,q1⟩
 | false=>exact hb wh pins s1 σ H1 Q I1 q1
theorem FP(ha:PT X a tA):PT X (.UnaryOp .Not a pos) (JS tA):=by
 intro pins s σ H Q I h
 exact isTrue_not (ha pins s σ H (fun c H1=>Q (!c) H1) I h)
noncomputable def HN(ta tb:TE):TE:=fun σ H Q=>ta σ H fun x H1=>∃c,x= .bl c∧if c=true then tb σ H1 Q else Q (.bl false) H1
noncomputable def K3(ta tb:TE):TE:=fun σ H Q=>ta σ H fun x H1=>∃c,x= .bl c∧if c=true then Q (.bl true) H1 else tb σ H1 Q
noncomputable def Hl(ta:TE):TE:=fun σ H Q=>ta σ H fun x H1=>∃c,x= .bl c∧Q (.bl (!c)) H1
theorem z7{op}{t:TE}(h:PE X a t):PE X (.BoolOp op [a] pos) t:=fun pins s σ H Q I hw=>BoolOp_one (h pins s σ H Q I hw)
theorem AA(ha:PE X a ta)(hb:PE X (.BoolOp .And (b ::rest) pos) tb):PE X (.BoolOp .And (a ::b ::rest) pos) (HN ta tb):=by
 intro pins s σ H Q I h
 refine BoolOp_and (dQ (ha pins s σ H _ I h) fun v s1 ⟨x,H1,I1,r1,q1⟩=>?_)
 obtain⟨c,rfl,q1⟩:=q1
 cases r1
 refine wpAny_truthy_bool ?_
 cases c with
 | true=>exact hb pins s1 σ H1 Q I1 q1
 | false=>exact⟨.bl false,H1,I1,rfl,q1⟩
theorem FH(ha:PE X a ta):PE X (.UnaryOp .Not a pos) (Hl ta):=by
 intro pins s σ H Q I h
 refine UnaryOp_ (dQ (ha pins s σ H _ I h) fun v s1 ⟨x,H1,I1,r1,q1⟩=>?_)
 obtain⟨c,rfl,q1⟩:=q1
 cases r1
 exact not_of (wpAny_truthy_bool ⟨.bl (!c),H1,I1,rfl,q1⟩)
noncomputable def K_(t:TT)(ta tb:TE):TE:=fun σ H Q=>t σ H fun c H1=>if c=true then ta σ H1 Q else tb σ H1 Q
theorem AN{c:Expr}(hc:PT X c tA)(ha:PE X a ta)(hb:PE X b tb):PE X (.IfExp c a b pos) (K_ tA ta tb):=by
 intro pins s σ H Q I h
 refine wpAny_IfExp (dQ (hc pins s σ H _ I h) fun d s1 ⟨H1,I1,q1⟩=>?_)
 cases d with
 | true=>exact ha pins s1 σ H1 Q I1 q1
 | false=>exact hb pins s1 σ H1 Q I1 q1
end
end L2
namespace L2
open PySem PySem.Spec PyProof.Rows
noncomputable def mw(K:PySem.W.Frag)(H:Hp)(a:Addr)(xs:List V):Prop:=
 Rd H a (.lst xs)∨
  ∃(o:Obj) (its:Array Value) (n:Nat),K.lookup a=some o∧o.cls= .type "list"∧o.dict=none∧o.data= .seq its n∧its.size≤sizeLine∧Vals xs its.toList
noncomputable def oJ(K:PySem.W.Frag)(H:Hp)(a:Addr)(xs:List V):Prop:=
 Rd H a (.tup xs)∨
  ∃(o:Obj) (its:Array Value) (n:Nat),K.lookup a=some o∧o.cls= .type "tuple"∧o.data= .seq its n∧its.size≤sizeLine∧Vals xs its.toList
noncomputable def Je:Value→Option V
 | .none=>some .cI
 | .bool b=>some (.bl b)
 | .int i _=>some (.int i)
 | .str x _=>some (.str x)
 | .bytes b _=>some (.byt b)
 | .float b _=>some (.flt b)
 | .ref a=>some (.ref a)
 | .type n=>some (.ty n)
 | _=>none
theorem RelV.abs{x:V}{u:Value}(r:RelV x u):Je u=some x:=by
 cases x with
 | cI=>cases r;rfl
 | bl _=>cases r;rfl
 | int _=>obtain⟨t,rfl⟩:=r;rfl
 | str _=>obtain⟨t,rfl⟩:=r;rfl
 | byt _=>obtain⟨t,rfl⟩:=r;rfl
 | flt _=>obtain⟨t,rfl⟩:=r;rfl
 | ref _=>cases r;rfl
 | ty _=>cases r;rfl
theorem RelV.inj{x y:V}{u:Value}(r:RelV x u)(q:RelV y u):x=y:=Option.some.inj (r.abs.symm.trans q.abs)
theorem Vals.inj:∀{xs ys:List V} {us:List Value},Vals xs us→Vals ys us→xs=ys
 | _,_,_, .nil, .nil=>rfl
 | _,_,_, .cons r t, .cons r' t'=>by rw[r.inj r',Vals.inj t t']
section
variable {X:Cx} {pins:List (Addr × Obj)} {σ:St} {H:Hp} {s:Shared} {a:Addr} {xs ys:List V}
theorem mw.of{K:PySem.W.Frag}(h:H a=some (.lst xs)):mw K H a xs:= .inl (.inl h)
theorem Inv.list(I:Inv X pins σ H s)(h:mw X.K H a xs):∃its:List Value,Vals xs its∧PlainL s.heap a its.toArray∧xs.length≤sizeLine:=by
 rcases h with h | ⟨o,its,n,hk,hc,hd,hs,hz,r⟩
 ·obtain⟨z,its,n,r,e⟩:=h.ok I.hok
  exact⟨its,r,⟨_,n,e,rfl,rfl,rfl⟩,z⟩
 ·refine⟨its.toList,r,⟨o,n,I.nC a o hk,hc,hd,by simpa using hs⟩,?_⟩
  have e:=r.length
  simp only[Array.length_toList] at e
  omega
theorem Inv.tuple(I:Inv X pins σ H s)(h:oJ X.K H a xs):∃its:List Value,Vals xs its∧IsTup s.heap a its.toArray∧xs.length≤sizeLine:=by
 rcases h with h | ⟨o,its,n,hk,hc,hs,hz,r⟩
 ·obtain⟨z,its,r,p⟩:=h.ok I.hok
  exact⟨its,r,p,z⟩
 ·refine⟨its.toList,r,⟨o,I.nC a o hk,hc,n,by simpa using hs⟩,?_⟩
  have e:=r.length
  simp only[Array.length_toList] at e
  omega
theorem Inv.qa(I:Inv X pins σ H s)(h:mw X.K H a xs)(h':mw X.K H a ys):xs=ys:=by
 obtain⟨its,r,⟨o,n,e,_,_,d⟩,_⟩:=I.list h
 obtain⟨its',r',⟨o',n',e',_,_,d'⟩,_⟩:=I.list h'
 rw[e] at e';cases e'
 rw[d] at d'
 injection d' with d1 _
 have:its=its':=by simpa using congrArg Array.toList d1
 subst this
 exact r.inj r'
theorem Inv.rB(I:Inv X pins σ H s)(h:oJ X.K H a xs)(h':oJ X.K H a ys):xs=ys:=by
 obtain⟨its,r,⟨o,e,_,n,d⟩,_⟩:=I.tuple h
 obtain⟨its',r',⟨o',e',_,n',d'⟩,_⟩:=I.tuple h'
 rw[e] at e';cases e'
 rw[d] at d'
 injection d' with d1 _
 have:its=its':=by simpa using congrArg Array.toList d1
 subst this
 exact r.inj r'
end
noncomputable abbrev Cx.q8(X:Cx)(E:Value→Shared→Prop):Cx:={X with xe:=E}
noncomputable abbrev Cx.Ct(X:Cx):Cx:=X.q8 fun _ _=>False
theorem Cx.Ok.q8{X:Cx}(ok:X.Ok)(E:Value→Shared→Prop):(X.q8 E).Ok:=
 ⟨ok.mod,ok.kind,ok.glob,ok.blt,ok.above,ok.inj,ok.has,ok.cab,ok.hd,ok.frames,ok.stk,ok.exf,ok.bs,ok.bsz,ok.noex,ok.exfs,ok.pk,ok.frf⟩
theorem Cx.Ok.kH{X:Cx}{E:Value→Shared→Prop}(ok:(X.q8 E).Ok):X.Ok:=
 ⟨ok.mod,ok.kind,ok.glob,ok.blt,ok.above,ok.inj,ok.has,ok.cab,ok.hd,ok.frames,ok.stk,ok.exf,ok.bs,ok.bsz,ok.noex,ok.exfs,ok.pk,ok.frf⟩
section
variable {X:Cx} {pins:List (Addr × Obj)} {σ:St} {H:Hp} {s:Shared} {E:Value→Shared→Prop}
theorem Inv.q8(I:Inv X pins σ H s)(E:Value→Shared→Prop):Inv (X.q8 E) pins σ H s:=⟨I.ok.q8 E,I.os,I.bare,I.base,I.loc,I.cell,I.free,I.freeC,I.pin,I.hok,I.len⟩
theorem Inv.kH(I:Inv (X.q8 E) pins σ H s):Inv X pins σ H s:=⟨I.ok.kH,I.os,I.bare,I.base,I.loc,I.cell,I.free,I.freeC,I.pin,I.hok,I.len⟩
theorem SP.kH{D:Ends}{f:Flow}{s':Shared}(h:SP (X.q8 E) pins D f s'):SP X pins D f s':=by
 cases f with
 | next=>obtain⟨σ',H',I,q⟩:=h;exact⟨σ',H',I.kH,q⟩
 | brk=>obtain⟨σ',H',I,q⟩:=h;exact⟨σ',H',I.kH,q⟩
 | cont=>obtain⟨σ',H',I,q⟩:=h;exact⟨σ',H',I.kH,q⟩
 | ret u=>obtain⟨v,σ',H',I,r,q⟩:=h;exact⟨v,σ',H',I.kH,r,q⟩
theorem uc.Ct{st:List Stmt}{t:TS}(h:uc X.Ct st t):uc X st t:=fun pins s σ H D I hw=>
 wpAny_mono (h pins s σ H D (I.q8 _) hw) (fun _ _ q=>q.kH) fun _ _ z=>False.elim z
end
section
variable {X:Cx} {st:Stmt} {rest:List Stmt} {t u:TS} {e:Expr} {te:TE} {pos:Pos}
noncomputable def Hu:TS:=fun D σ H=>D.nx σ H
noncomputable def Ic(t u:TS):TS:=fun D σ H=>t {D with nx:=u D} σ H
theorem xW:uc X [] Hu:=fun _ _ σ H _ I h=>wpAny_execs_nil ⟨σ,H,I,h⟩
theorem vg(h1:PS X st t)(h2:uc X rest u):uc X (st ::rest) (Ic t u):=by
 intro pins s σ H D I h
 refine wpAny_execs_cons (dQ (h1 pins s σ H {D with nx:=u D} I h) fun f s1 q=>?_)
 cases f with
 | next=>
   obtain⟨σ',H',I',q⟩:=q
   exact h2 pins s1 σ' H' D I' q
 | ret v=>exact q
 | brk=>exact q
 | cont=>exact q
theorem yp(h1:PS X st t):uc X [st] t:=by
 intro pins s σ H D I h
 refine wpAny_execs_cons (dQ (h1 pins s σ H D I h) fun f s1 q=>?_)
 cases f with
 | next=>exact wpAny_execs_nil q
 | ret v=>exact q
 | brk=>exact q
 | cont=>exact q
noncomputable def Jo:TS:=fun D σ H=>D.bk σ H
noncomputable def Kf:TS:=fun D σ H=>D.ct σ H
theorem Inv.quiet{pins:List (Addr × Obj)}{σ:St}{H:Hp}{s:Shared}(I:Inv X pins σ H s):interactive X.env=false:=by simp [interactive,I.ok.kind]
noncomputable def Hj(te:TE):TS:=fun D σ H=>te σ H fun _ H1=>D.nx σ H1
theorem sZ(he:PE X e te)(hs:swapsWith e none pos.line X.env=pure false:=by rfl):PS X (.Expr e pos) (Hj te):=by
 intro pins s σ H D I h
 exact wpAny_Expr_any (dQ (he pins s σ H _ I h) fun v s1 ⟨x,H1,I1,r1,q1⟩=>⟨σ,H1,I1,q1⟩) I.quiet hs
noncomputable def J1(te:TE):TS:=fun D σ H=>te σ H D.rt
theorem Bt(he:PE X e te):PS X (.Return (some e) pos) (J1 te):=by
 intro pins s σ H D I h
 exact wpAny_Return_some (dQ (he pins s σ H _ I h) fun v s1 ⟨x,H1,I1,r1,q1⟩=>⟨x,σ,H1,I1,r1,q1⟩)
noncomputable def Ko:TS:=fun D _ H=>D.rt .cI H
noncomputable def J5(c:TT)(t u:TS):TS:=fun D σ H=>c σ H fun b H1=>if b=true then t D σ H1 else u D σ H1
theorem Ez{c:Expr}{a b:List Stmt}{tc:TT}(hc:PT X c tc)(ha:uc X a t)(hb:uc X b u):PS X (.If c a b pos) (J5 tc t u):=by
 intro pins s σ H D I h
 refine wpAny_If (dQ (hc pins s σ H _ I h) fun d s1 ⟨H1,I1,q1⟩=>?_)
 cases d with
 | true=>exact ha pins s1 σ H1 D I1 q1
 | false=>exact hb pins s1 σ H1 D I1 q1
noncomputable def Js:TS:=fun _ _ _=>False
end
noncomputable abbrev TG:=V→St→Hp→(St→Hp→Prop)→Prop
noncomputable abbrev A8:=List V→St→Hp→(St→Hp→Prop)→Prop
noncomputable def PG(X:Cx)(target:Expr)(t:TG):Prop:=
 ∀(pins:List (Addr × Obj)) (s:Shared) (σ:St) (H:Hp) (v:V) (u:Value) (Q:St→Hp→Prop),Inv X pins σ H s→RelV v u→t v σ H Q→
  wpAny (model X.prog X.w) X.A (assign target X.env u) (fun _ s'=>∃σ' H',Inv X pins σ' H' s'∧Q σ' H') X.xe s
noncomputable def C7(X:Cx)(ts:List Expr)(t:A8):Prop:=
 ∀(pins:List (Addr × Obj)) (s:Shared) (σ:St) (H:Hp) (vs:List V) (us:List Value) (Q:St→Hp→Prop),Inv X pins σ H s→Vals vs us→t vs σ H Q→
  wpAny (model X.prog X.w) X.A (assignInOrder ((assignEach ts X.env).map (·.2)) us) (fun _ s'=>∃σ' H',Inv X pins σ' H' s'∧Q σ' H') X.xe s
noncomputable abbrev C_:=V→V→V→Hp→(Hp→Prop)→Prop
noncomputable def Ie(X:Cx)(t:C_):Prop:=
 ∀(pins:List (Addr × Obj)) (s:Shared) (σ:St) (H:Hp) (o i v:V) (ov iv u:Value) (Q:Hp→Prop),Inv X pins σ H s→RelV o ov→RelV i iv→RelV v u→t o i v H Q→
  wpAny (model X.prog X.w) X.A (setItem ov iv u) (fun _ s'=>∃H',Inv X pins σ H' s'∧Q H') X.xe s
noncomputable abbrev IM:=V→V→Hp→VK→Prop
noncomputable def L9(X:Cx)(op:Operator)(t:IM):Prop:=
 ∀(pins:List (Addr × Obj)) (s:Shared) (σ:St) (H:Hp) (x y:V) (v u:Value) (Q:VK),Inv X pins σ H s→RelV x v→RelV y u→t x y H Q→
  wpAny (model X.prog X.w) X.A (inplaceOp op v u) (EP X pins σ Q) X.xe s
section
variable {X:Cx} {pos:Pos}
noncomputable def qd(i:Nat):TG:=fun v σ H Q=>Q (σ.set i (some v)) H
theorem x5{i:Nat}{x:Str}(hN:X.N.Nodup)(hi:X.N[i]? =some x)(hx:Loc X.env.scope x)(hf:X.fn x=true∨X.env.scope.names.lookup x=some .local:=by first | exact .inl rfl | exact .inr rfl | assumption):PG X (.Name x pos) (qd i):=by
 intro pins s σ H v u Q I r h
 exact wpAny_assign_Name (vm I hN hi hx r (fun s' I'=>⟨_,H,I',h⟩) hf)
noncomputable def JP:A8:=fun vs σ H Q=>vs=[]∧Q σ H
noncomputable def HJ(t:TG)(u:A8):A8:=fun vs σ H Q=>∃v r,vs=v ::r∧t v σ H fun σ' H'=>u r σ' H' Q
theorem yb:C7 X [] JP:=by
 intro pins s σ H vs us Q I r h
 obtain⟨e,h⟩:=h
 subst e
 cases r
 exact assignInOrder_nil ⟨σ,H,I,h⟩
theorem ux{e:Expr}{es:List Expr}{t:TG}{u:A8}(h1:PG X e t)(h2:C7 X es u)
 (hs:(assignEach (e ::es) X.env).map (·.2)=assign e X.env ::(assignEach es X.env).map (·.2):=by rfl):C7 X (e ::es) (HJ t u):=by
 intro pins s σ H vs us Q I r h
 obtain⟨v,vr,e1,h⟩:=h
 subst e1
 cases r with
 | cons r rr=>
   rw[hs]
   refine assignInOrder_cons (dQ (h1 pins s σ H _ _ _ I r h) fun _ s1 ⟨σ1,H1,I1,q1⟩=>?_)
   exact h2 pins s1 σ1 H1 _ _ Q I1 rr q1
noncomputable def Jd(K:PySem.W.Frag)(n:Nat)(t:A8):TG:=fun v σ H Q=>∃a xs,v= .ref a∧oJ K H a xs∧xs.length=n∧t xs σ H Q
theorem Bi{es:List Expr}{k:Nat}{t:A8}{n:Nat}(hc:X.calm=true)(h:C7 X es t)
 (hn:(assignEach es X.env).length=n:=by rfl) (hst:(assignEach es X.env).findIdx? (·.1)=none:=by rfl):PG X (.Tuple es k pos) (Jd X.K n t):=by
 intro pins s σ H v u Q I r hw
 obtain⟨a,xs,e1,hq,hl,hw⟩:=hw
 subst e1
 cases r
 obtain⟨its,rv,ht,hz⟩:=I.tuple hq
 refine assign_Tuple_tuple (I.ok.hd hc) ht (by simp [hn,←hl,rv.length]) hst fun h' hx=>?_
 have I1:Inv X pins σ H {s with heap:=h'}:=I.kept (t':=s.toks) fun b o e=>hx b o (Nat.ne_of_lt (Heap.lt_size e)) e
 exact h pins _ σ H xs _ Q I1 (by simpa using rv) hw
noncomputable def Ia(to ti:TE)(t:C_):TG:=fun v σ H Q=>to σ H fun o H1=>ti σ H1 fun i H2=>t o i v H2 fun H3=>Q σ H3
theorem tM{o i:Expr}{to ti:TE}{t:C_}(ho:PE X o to)(hi:PE X i ti)(hs:Ie X t)
 (ha:∀v,assign (.Subscript o i pos) X.env v=(do
   let ov ←holding [v] (eval o X.env)
   let iv ←holding [v,ov] (eval i X.env)
   standAt pos
   holding [v,ov,iv] (setItem ov iv v)
   release [v,ov,iv] []):=by intro _;rfl):PG X (.Subscript o i pos) (Ia to ti t):=by
 intro pins s σ H v u Q I r h
 rw[ha]
 refine wpAny_bind (wpAny_holding (dQ (ho pins s σ H _ I h) fun ov s1 ⟨x,H1,I1,r1,q1⟩=>?_))
 refine wpAny_bind (wpAny_holding (dQ (hi pins s1 σ H1 _ I1 q1) fun iv s2 ⟨y,H2,I2,r2,q2⟩=>?_))
 refine wpAny_bind (wpAny_standAt (wpAny_bind (wpAny_holding (dQ (hs pins s2 σ H2 x y v ov iv u _ I2 r1 r2 r q2) fun _ s3 ⟨H3,I3,q3⟩=>?_))))
 exact wpAny_release ⟨σ,H3,I3,q3⟩
noncomputable def zg(te:TE)(g:TG):TS:=fun D σ H=>te σ H fun x H1=>g x σ H1 D.nx
theorem zS{tg e:Expr}{te:TE}{g:TG}(he:PE X e te)(hg:PG X tg g)(hs:swapsWithSole [tg] e pos.line X.env=pure false:=by rfl)(hw:swappedStores [tg] e X.env=pure none:=by rfl)
 (h1:(assignEach [tg] X.env).map (·.2)=[assign tg X.env]:=by rfl):PS X (.Assign [tg] e pos) (zg te g):=by
 intro pins s σ H D I h
 refine wpAny_Assign_stores (dQ (he pins s σ H _ I h) fun v s1 ⟨x,H1,I1,r1,q1⟩=>?_) hs hw
 rw[h1]
 exact dQ (hg pins s1 σ H1 x v _ I1 r1 q1) fun _ s2 q=>q
theorem wL{i:Nat}{x:Str}{e:Expr}{te:TE}{pos':Pos}(hN:X.N.Nodup)(hi:X.N[i]? =some x)(hx:Loc X.env.scope x)(he:PE X e te)(hs:swapsWith e (some (.Name x pos')) pos.line X.env=pure false:=by rfl)(hf:X.fn x=true∨X.env.scope.names.lookup x=some .local:=by first | exact .inl rfl | exact .inr rfl | assumption) :
 PS X (.Assign [.Name x pos'] e pos) (zg te (qd i)):=by
 intro pins s σ H D I h
 refine wpAny_Assign_Name (dQ (he pins s σ H _ I h) fun v s1 ⟨y,H1,I1,r1,q1⟩=>?_) hs
 exact vm I1 hN hi hx r1 (fun s2 I2=>⟨_,H1,I2,q1⟩) hf
noncomputable def LQ(i j:Nat)(ta:TA):TS:=fun D σ H=>ta σ H fun vs H1=>∃v w,vs=[v,w]∧D.nx ((σ.set i (some v)).set j (some w)) H1
noncomputable def LK(i:Nat)(te:TE)(ti:IM):TS:=fun D σ H=>∃x,σ[i]? =some (some x)∧te σ H fun y H1=>ti x y H1 fun z H2=>D.nx (σ.set i (some z)) H2
noncomputable def J6(to ti te:TE)(tget:V→V→Hp→VK→Prop)(tip:IM)(tset:C_):TS:=fun D σ H=>to σ H fun o H1=>ti σ H1 fun i H2=>tget o i H2 fun x H3=>te σ H3 fun y H4=>tip x y H4 fun z H5=>tset o i z H5 fun H6=>D.nx σ H6
noncomputable def KZ(X:Cx)(t:V→V→Hp→VK→Prop):Prop:=
 ∀(pins:List (Addr × Obj)) (s:Shared) (σ:St) (H:Hp) (o i:V) (ov iv:Value) (Q:VK),Inv X pins σ H s→RelV o ov→RelV i iv→t o i H Q→
  wpAny (model X.prog X.w) X.A (getItem ov iv) (EP X pins σ Q) X.xe s
noncomputable def L4(f:Int→Int→Int):IM:=fun x y H Q=>∃i j,x= .int i∧y= .int j∧Q (.int (f i j)) H
end
section
variable {X:Cx} {pos:Pos}
noncomputable def GA(c:TT)(tb:TS):TS:=fun D σ H=>∃W:Nat→St→Hp→Prop,(∃m,W m σ H)∧∀m σ H,W m σ H→
 c σ H fun b H1=>if b=true then ∃N:St→Hp→Prop,(∀σ' H',N σ' H'→∃m',m' < m∧W m' σ' H')∧tb {D with nx:=N,ct:=N,bk:=D.nx} σ H1 else D.nx σ H1
theorem AD{c:Expr}{body:List Stmt}{tc:TT}{tb:TS}(hp:PassesOwn (model X.prog X.w) X.A X.env X.xe)(hc:PT X c tc)(hb:uc X body tb):PS X (.While c body [] pos) (GA tc tb):=by
 intro pins s σ H D I h
 obtain⟨W,⟨m0,w0⟩,turn⟩:=h
 refine wpAny_While (codeAny_whileLoop (fun n s'=>∃σ' H',Inv X pins σ' H' s'∧W n σ' H') ?_ m0 ⟨σ,H,I,w0⟩)
 rintro n s1 ⟨σ1,H1,I1,w1⟩
 refine wpAny_passesOwn hp (dQ (hc pins s1 σ1 H1 _ I1 (turn n σ1 H1 w1)) fun b s2 ⟨H2,I2,q2⟩=>?_)
 cases b with
 | true=>
   obtain⟨N,hN,q2⟩:=q2
   rw[if_pos rfl]
   refine wpAny_passesOwn hp (dQ (hb pins s2 σ1 H2 _ I2 q2) fun f s3 q3=>?_)
   cases f with
   | next=>
     obtain⟨σ3,H3,I3,n3⟩:=q3
     obtain⟨m',hm,w3⟩:=hN σ3 H3 n3
     exact⟨m',hm,σ3,H3,I3,w3⟩
   | cont=>
     obtain⟨σ3,H3,I3,n3⟩:=q3
     obtain⟨m',hm,w3⟩:=hN σ3 H3 n3
     exact⟨m',hm,σ3,H3,I3,w3⟩
   | brk=>exact q3
   | ret v=>exact q3
 | false=>
   rw[if_neg Bool.false_ne_true]
   exact wpAny_execs_nil ⟨σ1,H2,I2,q2⟩
end
structure It where
 go:Nat→Hp→Prop
 yld:Nat→Hp→V→Hp→Prop
 stop:Nat→Hp→Prop
noncomputable def o9(X:Cx)(pins:List (Addr × Obj))(H:Hp)(b:Addr):Prop:=
 H b=none∧b≠X.env.locals∧b ∉ X.fs∧(b∈X.ex∨X.s₀.heap.objs.size≤b)∧(∀x c,X.env.cells.lookup x=some c→c≠b)∧∀p∈X.pn++pins,p.1≠b
theorem Inv.tW{X:Cx}{pins:List (Addr × Obj)}{σ:St}{H H':Hp}{s:Shared}{b:Addr}(I:Inv X pins σ H s)(hb:s.heap.objs.size≤b)(hn:H' b=none):o9 X pins H' b:=by
 refine⟨hn,Nat.ne_of_gt (Nat.lt_of_lt_of_le I.lt hb),I.JT hb, .inr (Nat.le_trans I.sz hb),fun x c e z=>?_,fun p hp z=>?_⟩
 ·obtain⟨v,q⟩:=I.cell x c e
  exact absurd (Nat.lt_of_lt_of_le q.lt (by rw[z];exact hb)) (Nat.lt_irrefl _)
 ·exact absurd (Nat.lt_of_lt_of_le (Heap.lt_size (I.pin p hp).1) (by rw[z];exact hb)) (Nat.lt_irrefl _)
structure Turn (P:Program) (w:World) (K:PySem.W.Frag) (tg:Expr) (J:It) (fp:List Addr) (it:Addr) (tn:Nat→Heap→Prop):Prop where
 mem:it∈fp
 obj:∀i h,tn i h→∀b∈fp,∃o,h.get? b=some o∧∀v,o.data≠ .cell v
 keep:∀i h h',tn i h→(∀b∈fp,∀o,h.get? b=some o→h'.get? b=some o)→tn i h'
 item:∀(X:Cx),X.prog=P→X.w=w→X.K=K→X.calm=true→∀(i:Nat) (pins:List (Addr × Obj)) (s:Shared) (σ:St) (H:Hp) (E:Value→Shared→Prop),Inv X pins σ H s→(∀b∈fp,o9 X pins H b)→tn i s.heap→J.go i H→
  wpAny (model P w) X.A (pyNext (.ref it)) (fun r s1=>∃u,r=some u∧
   wpAny (model P w) X.A (letOwnedTupleGo tg (.ref it) u) (fun _ s2=>∃x H',Inv X pins σ H' s2∧RelV x u∧J.yld i H x H'∧tn (i+1) s2.heap∧∀b∈fp,H' b=none) E s1) E s
 done:∀(X:Cx),X.prog=P→X.w=w→X.K=K→X.calm=true→∀(i:Nat) (pins:List (Addr × Obj)) (s:Shared) (σ:St) (H:Hp) (E:Value→Shared→Prop),Inv X pins σ H s→(∀b∈fp,o9 X pins H b)→tn i s.heap→J.stop i H→
  wpAny (model P w) X.A (pyNext (.ref it)) (fun r s1=>r=none∧Inv X pins σ H s1) E s
 self:∀(A:Around) (i:Nat) (s:Shared) (Q:Value→Shared→Prop) (E:Value→Shared→Prop),tn i s.heap→Q (.ref it) s→wpAny (model P w) A (pyIter (.ref it)) Q E s
noncomputable abbrev TI:=St→Hp→(It→Hp→Prop)→Prop
noncomputable def Kj(X:Cx)(pins:List (Addr × Obj))(σ:St)(tg:Expr)(R:It→Hp→Prop)(itv:Value)(s2:Shared):Prop:=
 ∃(it:Addr) (fp:List Addr) (tn:Nat→Heap→Prop) (J:It) (H':Hp),itv= .ref it∧Inv X pins σ H' s2∧Turn X.prog X.w X.K tg J fp it tn∧tn 0 s2.heap∧(∀b∈fp,o9 X pins H' b)∧R J H'
noncomputable def PI(X:Cx)(tg iter:Expr)(wi:TI):Prop:=
 ∀(pins:List (Addr × Obj)) (s:Shared) (σ:St) (H:Hp) (R:It→Hp→Prop),Inv X pins σ H s→wi σ H R→
  wpAny (model X.prog X.w) X.A (eval iter X.env) (fun v s1=>wpAny (model X.prog X.w) X.A (pyIter v) (Kj X pins σ tg R) X.xe s1) X.xe s
theorem xG{M:Model}{A:Around}{E:Value→Shared→Prop}{s:Shared}{tg:Expr}{it:Addr}{u:Value}{o:Obj}{n:String}{vs:Array Value}{Q:Unit→Shared→Prop}(ho:s.heap.get? it=some o)(hc:o.cls= .type n)(hd:o.data= .fields vs)
 (hn:["enumerate","zip","dict_itemiterator","dict_reverseitemiterator","odict_iterator","itertools.zip_longest","itertools.pairwise"].contains n=false) (hQ:Q () s):wpAny M A (letOwnedTupleGo tg (.ref it) u) Q E s:=by
 unfold letOwnedTupleGo
 cases tg <;> first
  | exact wpAny_pure hQ
  | (cases u <;> first
      | exact wpAny_pure hQ
      | (refine wpAny_bind (wpAny_load ho ?_)
         rw[hc,hd]
         show wpAny M A (if(["enumerate","zip","dict_itemiterator","dict_reverseitemiterator","odict_iterator","itertools.zip_longest","itertools.pairwise"].contains n && vs[0]? ==some (rawInt _))=true then _ else _) Q E s
         rw[if_neg (by intro h;rw [hn,Bool.false_and] at h;cases h)]
         exact wpAny_pure hQ))
noncomputable def Kv(K:PySem.W.Frag)(a:Addr):It:=
 ⟨fun i H=>∃xs x,mw K H a xs∧xs[i]? =some x,fun i H x H'=>H'=H∧∀xs,mw K H a xs→xs[i]? =some x,fun i H=>∃xs,mw K H a xs∧xs.length≤i⟩
noncomputable def Kp(K:PySem.W.Frag)(a:Addr):It:=
 ⟨fun i H=>∃xs x,oJ K H a xs∧xs[i]? =some x,fun i H x H'=>H'=H∧∀xs,oJ K H a xs→xs[i]? =some x,fun i H=>∃xs,oJ K H a xs∧xs.length≤i⟩
noncomputable def IF(lo:Int)(n:Nat):It:=⟨fun i _=>i < n,fun i H x H'=>H'=H∧x= .int (lo+i),fun i _=>n≤i⟩
theorem r_{P:Program}{w:World}{K:PySem.W.Frag}{tg:Expr}(a it:Addr):Turn P w K tg (Kv K a) [it] it (fun i h=>h.IsListIter it a i) where
 mem:=by simp
 obj:=fun i h st b hb=>by
  have e:b=it:=by simpa using hb
  subst e
  obtain⟨o,e,c,d⟩:=st
  exact⟨o,e,fun v z=>by rw[d] at z;cases z⟩
 keep:=fun i h h' st k=>st.at fun o e=>k it (by simp) o e
 item:=by
  intro X hP hw hK hc i pins s σ H E I hf st hg
  subst hP hw hK
  obtain⟨xs,x,hq,hx⟩:=hg
  obtain⟨its,rv,p,hz⟩:=I.list hq
  obtain⟨u,hu,ru⟩:=rv.get hx
  obtain⟨f0,f1,f2,f3,f4,f5⟩:=hf it (by simp)
  refine wpAny_pyNext_list_item st p.isList (x:=u) (by simpa using hu) fun h' st' sb=>?_
  have I1:Inv X pins σ H {s with heap:=h'}:=I.turned (t':=s.toks) (fun b o hb e=>(sb.2 b hb).trans e) f0 f1 f3 f4 f5
  obtain⟨o,e,c,d⟩:=id st'
  exact⟨u,rfl,xG (s:={s with heap:=h'}) e c d (by decide) ⟨x,H,I1,ru,⟨rfl,fun ys hy=>by rw[I.qa hy hq];exact hx⟩,st',fun b hb=>(hf b hb).1⟩⟩
 done:=by
  intro X hP hw hK hc i pins s σ H E I hf st hg
  subst hP hw hK
  obtain⟨xs,hq,hx⟩:=hg
  obtain⟨its,rv,p,hz⟩:=I.list hq
  obtain⟨f0,f1,f2,f3,f4,f5⟩:=hf it (by simp)
  have hl:=rv.length
  exact wpAny_pyNext_list_end (I.ok.hd hc) st p.isList (by simp;omega) fun h' eb=>⟨rfl,I.turned (t':=s.toks) (fun b o hb e=>eb b o hb e) f0 f1 f3 f4 f5⟩
 self:=fun _ _ _ _ _ st h=>wpAny_pyIter_listiter st h
theorem wk{P:Program}{w:World}{K:PySem.W.Frag}{tg:Expr}(a it:Addr):Turn P w K tg (Kp K a) [it] it (fun i h=>h.IsTupleIter it a i) where
 mem:=by simp
 obj:=fun i h st b hb=>by
  have e:b=it:=by simpa using hb
  subst e
  obtain⟨o,e,c,d⟩:=st
  exact⟨o,e,fun v z=>by rw[d] at z;cases z⟩
 keep:=fun i h h' st k=>st.at fun o e=>k it (by simp) o e
 item:=by
  intro X hP hw hK hc i pins s σ H E I hf st hg
  subst hP hw hK
  obtain⟨xs,x,hq,hx⟩:=hg
  obtain⟨its,rv,p,hz⟩:=I.tuple hq
  obtain⟨u,hu,ru⟩:=rv.get hx
  obtain⟨f0,f1,f2,f3,f4,f5⟩:=hf it (by simp)
  refine wpAny_pyNext_tuple_item st (show s.heap.IsTuple a its.toArray from p) (x:=u) (by simpa using hu) fun h' st' sb=>?_
  have I1:Inv X pins σ H {s with heap:=h'}:=I.turned (t':=s.toks) (fun b o hb e=>(sb.2 b hb).trans e) f0 f1 f3 f4 f5
  obtain⟨o,e,c,d⟩:=id st'
  exact⟨u,rfl,xG (s:={s with heap:=h'}) e c d (by decide) ⟨x,H,I1,ru,⟨rfl,fun ys hy=>by rw[I.rB hy hq];exact hx⟩,st',fun b hb=>(hf b hb).1⟩⟩
 done:=by
  intro X hP hw hK hc i pins s σ H E I hf st hg
  subst hP hw hK
  obtain⟨xs,hq,hx⟩:=hg
  obtain⟨its,rv,p,hz⟩:=I.tuple hq
  obtain⟨f0,f1,f2,f3,f4,f5⟩:=hf it (by simp)
  have hl:=rv.length
  exact wpAny_pyNext_tuple_end (I.ok.hd hc) st (show s.heap.IsTuple a its.toArray from p) (by simp;omega) fun h' eb=>⟨rfl,I.turned (t':=s.toks) (fun b o hb e=>eb b o hb e) f0 f1 f3 f4 f5⟩
 self:=fun _ _ _ _ _ st h=>wpAny_pyIter_tupleiter st h
theorem xi{P:Program}{w:World}{K:PySem.W.Frag}{tg:Expr}(it:Addr)(lo:Int)(n:Nat):Turn P w K tg (IF lo n) [it] it (fun i h=>IsRangeIter h it (lo+(i:Nat)*1) ((n:Int) - (i:Nat)) 1) where
 mem:=by simp
 obj:=fun i h st b hb=>by
  have e:b=it:=by simpa using hb
  subst e
  exact⟨_,st,fun v z=>by
   have z':Data.fields _=Data.cell v:=z
   cases z'⟩
 keep:=fun i h h' st k=>k it (by simp) _ st
 item:=by
  intro X hP hw hK hc i pins s σ H E I hf st hg
  subst hP hw hK
  obtain⟨f0,f1,f2,f3,f4,f5⟩:=hf it (by simp)
  have W:=Walks.range (prog:=X.prog) (w:=X.w) (I.ok.hd hc) it lo 1 n
  refine W.item i s _ _ hg st fun v h' tk hv st' kk=>?_
  obtain⟨t,rfl⟩:=hv
  have I1:Inv X pins σ H {s with heap:=h',toks:=tk}:=I.turned (fun b o hb e=>kk b o (by simpa using hb) e) f0 f1 f3 f4 f5
  refine⟨_,rfl,xG (s:={s with heap:=h',toks:=tk}) (n:="range_iterator") st' rfl rfl (by decide) ⟨.int (lo+i),H,I1,⟨t,?_⟩,⟨rfl,rfl⟩,st',fun b hb=>(hf b hb).1⟩⟩
  rw[Int.mul_one]
 done:=by
  intro X hP hw hK hc i pins s σ H E I hf st hg
  subst hP hw hK
  obtain⟨f0,f1,f2,f3,f4,f5⟩:=hf it (by simp)
  exact wpAny_pyNext_range_end (I.ok.hd hc) st (by have:n≤i:=hg;omega) fun h' eb=>⟨rfl,I.turned (t':=s.toks) (fun b o hb e=>eb b o hb e) f0 f1 f3 f4 f5⟩
 self:=fun _ _ _ _ _ st h=>wpAny_pyIter_rangeiter st h
end L2
namespace L2
open PySem PySem.Spec PyProof.Rows
section
variable {X:Cx} {tg:Expr}
noncomputable def Kx(K:PySem.W.Frag)(tl:TE):TI:=fun σ H R=>tl σ H fun x H1=>∃a,x= .ref a∧(∃xs,mw K H1 a xs)∧R (Kv K a) H1
noncomputable def JO(K:PySem.W.Frag)(tl:TE):TI:=fun σ H R=>tl σ H fun x H1=>∃a,x= .ref a∧(∃xs,oJ K H1 a xs)∧R (Kp K a) H1
theorem BS{pins:List (Addr × Obj)}{σ:St}{H:Hp}{s:Shared}{R:It→Hp→Prop}{E:Value→Shared→Prop}{lo hi:Int}{t u v:Tok}{tk:Nat}(I:Inv X pins σ H s)(h1: -(2 ^ 62)≤lo)(h2:lo < 2 ^ 62)(h3: -(2 ^ 62)≤hi)(h4:hi < 2 ^ 62)
 (q:R (IF lo (hi - lo).toNat) H):wpAny (model X.prog X.w) X.A (pyIter (.ref s.heap.objs.size)) (Kj X pins σ tg R) E {s with heap:=s.heap.push {cls:= .type "range",data:= .fields #[.int lo t, .int hi u, .int 1 v]},toks:=tk}:=by
 refine wpAny_pyIter_range (IsRange.new ..) (small_one h1 h2 h3 h4) ?_
 have I1:Inv X pins σ H {s with heap:=s.heap.push {cls:= .type "range",data:= .fields #[.int lo t, .int hi u, .int 1 v]},toks:=tk}:=I.kept fun b o e=>Heap.get?_push_of_some _ e
 refine⟨(s.heap.push {cls:= .type "range",data:= .fields #[.int lo t, .int hi u, .int 1 v]}).objs.size,[(s.heap.push {cls:= .type "range",data:= .fields #[.int lo t, .int hi u, .int 1 v]}).objs.size],_,_,H,rfl,
  I1.kept (t':=tk) fun b o e=>Heap.get?_push_of_some _ e,xi _ lo (hi - lo).toNat,?_,fun b hb=>?_,q⟩
 ·have e1:lo+((0:Nat):Int)*1=lo:=by simp
  have e2:(((hi - lo).toNat:Nat):Int) - ((0:Nat):Int)=Builtin.Range.rangeSize lo hi 1:=by rw[rangeSize_one];split <;> omega
  show IsRangeIter _ _ (lo+((0:Nat):Int)*1) ((((hi - lo).toNat:Nat):Int) - ((0:Nat):Int)) 1
  rw[e1,e2]
  exact Heap.get?_push_size _ rfl
 ·have e:b=(s.heap.push {cls:= .type "range",data:= .fields #[.int lo t, .int hi u, .int 1 v]}).objs.size:=by simpa using hb
  subst e
  exact I1.tW (Nat.le_refl _) (I1.hok.fresh (Nat.le_refl _))
noncomputable def lS(ta:TA):TI:=fun σ H R=>ta σ H fun vs H1=>∃j:Int,vs=[.int j]∧ -(2 ^ 62)≤j∧j < 2 ^ 62∧R (IF 0 j.toNat) H1
noncomputable def Kk(ta:TA):TI:=fun σ H R=>ta σ H fun vs H1=>∃i j:Int,vs=[.int i, .int j]∧(-(2 ^ 62)≤i∧i < 2 ^ 62∧ -(2 ^ 62)≤j∧j < 2 ^ 62)∧R (IF i (j - i).toNat) H1
theorem sx{a:Expr}{ta:TA}{p pos:Pos}(hg:Gl X "range")(hm:X.mg "range"=none)(ha:PA X [a] ta)(hs:starEach [a] X.env=[(false,eval a X.env)]:=by rfl):PI X tg (.Call (.Name "range" p) [a] [] pos) (lS ta):=by
 intro pins s σ H R I h
 refine Call_ (l7 I hg hm boot_range (PyProof.Rows.callWith_type1 (dQ (ha pos pins s σ H _ I h) fun us s1 ⟨vs,H1,I1,r1,q1⟩=>?_) hs rfl))
 obtain⟨j,e,q1,q2,q⟩:=q1
 subst e
 cases r1 with
 | cons r rr=>
   cases rr
   obtain⟨t,rfl⟩:=r
   exact call_range_1 (BS I1 (by omega) (by omega) q1 q2 (by simpa using q))
noncomputable def JZ(wi:TI)(g:TG)(tb:TS):TS:=fun D σ H=>wi σ H fun J H1=>∃W:Nat→Nat→St→Hp→Prop,(∃m,W 0 m σ H1)∧∀i m σ H,W i m σ H→
 (J.stop i H∧D.nx σ H)∨(J.go i H∧∃N:St→Hp→Prop,(∀σ' H',N σ' H'→∃m',m' < m∧W (i+1) m' σ' H')∧∀x H',J.yld i H x H'→g x σ H' fun σ2 H2=>tb {D with nx:=N,ct:=N,bk:=D.nx} σ2 H2)
noncomputable def l4(fp:List Addr)(h:Heap):List (Addr × Obj):=fp.filterMap fun b=>(h.get? b).map fun o=>(b,o)
theorem j4{fp:List Addr}{h:Heap}{b:Addr}{o:Obj}(hb:b∈fp)(e:h.get? b=some o):(b,o)∈l4 fp h:=List.mem_filterMap.mpr ⟨b,hb,by rw[e];rfl⟩
theorem zl{fp:List Addr}{h:Heap}{p:Addr × Obj}(hp:p∈l4 fp h):p.1∈fp∧h.get? p.1=some p.2:=by
 obtain⟨b,hb,e⟩:=List.mem_filterMap.mp hp
 cases q:h.get? b with
 | none=>rw [q] at e;cases e
 | some o=>
   rw[q] at e
   have e':(b,o)=p:=Option.some.inj e
   subst e'
   exact⟨hb,q⟩
theorem Inv.pinned{pins:List (Addr × Obj)}{σ:St}{H:Hp}{s:Shared}{fp:List Addr}(I:Inv X pins σ H s)(hf:∀b∈fp,o9 X pins H b)(ho:∀b∈fp,∃o,s.heap.get? b=some o∧∀v,o.data≠ .cell v):Inv X (pins++l4 fp s.heap) σ H s:=
 I.xp fun p hp=>(List.mem_append.mp hp).elim (fun z=>I.pin p (List.mem_append_right _ z)) fun z=>by
  obtain⟨hb,e⟩:=zl z
  obtain⟨f0,f1,f2,_⟩:=hf p.1 hb
  obtain⟨o,e',d⟩:=ho p.1 hb
  rw[e] at e';cases e'
  exact⟨e,f0,f1,f2,d⟩
theorem Inv.mL{pins pl:List (Addr × Obj)}{σ:St}{H:Hp}{s:Shared}(I:Inv X (pins++pl) σ H s):Inv X pins σ H s:=I.xp fun p hp=>I.pin p (List.mem_append_right _ (List.mem_append_left _ hp))
theorem z9{iter:Expr}{body:List Stmt}{wi:TI}{g:TG}{tb:TS}{pos:Pos}(hp:PassesOwn (model X.prog X.w) X.A X.env X.xe)(hc:X.calm=true)(hi:PI X tg iter wi)(hg:PG X tg g)(hb:uc X body tb)
 (hs:∀x,foldedSetIterable iter X.env x=pure x:=by intro _;rfl):PS X (.For tg iter body [] pos) (JZ wi g tb):=by
 intro pins s σ H D I h
 refine wpAny_For (dQ (hi pins s σ H _ I h) fun v s1 h1=>dQ h1 fun itv s2 h2=>?_) hs
 obtain⟨it,fp,tn,J,H2,e,I2,T,st2,f2,W,⟨m0,w0⟩,turn⟩:=h2
 subst e
 have stat:∀{H':Hp},(∀b∈fp,H' b=none)→∀b∈fp,o9 X pins H' b:=fun hn b hb=>⟨hn b hb,(f2 b hb).2⟩
 refine codeAny_forLoop_any (fun n s'=>∃i σ' H',Inv X pins σ' H' s'∧tn i s'.heap∧(∀b∈fp,H' b=none)∧W i n σ' H') ?_ m0 ⟨0,σ,H2,I2,st2,fun b hb=>(f2 b hb).1,w0⟩
 rintro n s3 ⟨i,σ3,H3,I3,st3,fr3,w3⟩
 rcases turn i n σ3 H3 w3 with⟨stop,qn⟩ | ⟨go,N,hN,step⟩
 ·refine wpAny_passesOwn hp (dQ (T.done X rfl rfl rfl hc i pins s3 σ3 H3 X.xe I3 (stat fr3) st3 stop) fun r s4 ⟨hr,I4⟩=>?_)
  subst hr
  exact wpAny_execs_nil ⟨σ3,H3,I4,qn⟩
 ·refine wpAny_passesOwn hp (dQ (T.item X rfl rfl rfl hc i pins s3 σ3 H3 X.xe I3 (stat fr3) st3 go) fun r s4 ⟨u,hr,h4⟩=>?_)
  subst hr
  refine wpAny_passesOwn hp (dQ h4 fun _ s5 ⟨x,H5,I5,r5,y5,st5,fr5⟩=>?_)
  have I5':=I5.pinned (stat fr5) (T.obj _ _ st5)
  refine wpAny_passesOwn hp (dQ (hg _ s5 σ3 H5 x u _ I5' r5 (step x H5 y5)) fun _ s6 ⟨σ6,H6,I6,q6⟩=>?_)
  refine wpAny_passesOwn hp (dQ (hb _ s6 σ6 H6 _ I6 q6) fun f s7 q7=>?_)
  have again:∀{σ7:St} {H7:Hp},Inv X (pins++l4 fp s5.heap) σ7 H7 s7→N σ7 H7→∃m,m < n∧∃i σ' H',Inv X pins σ' H' s7∧tn i s7.heap∧(∀b∈fp,H' b=none)∧W i m σ' H':=fun {σ7 H7} I7 n7=>by
   obtain⟨m',hm,w7⟩:=hN σ7 H7 n7
   refine⟨m',hm,i+1,σ7,H7,I7.mL,T.keep _ _ _ st5 fun b hb o e=>(I7.pin (b,o) (List.mem_append_right _ (List.mem_append_right _ (j4 hb e)))).1,fun b hb=>?_,w7⟩
   obtain⟨o,e,d⟩:=T.obj _ _ st5 b hb
   exact(I7.pin (b,o) (List.mem_append_right _ (List.mem_append_right _ (j4 hb e)))).2.1
  cases f with
  | next=>obtain⟨σ7,H7,I7,n7⟩:=q7;exact again I7 n7
  | cont=>obtain⟨σ7,H7,I7,n7⟩:=q7;exact again I7 n7
  | brk=>obtain⟨σ7,H7,I7,q7⟩:=q7;exact⟨σ7,H7,I7.mL,q7⟩
  | ret v=>obtain⟨x7,σ7,H7,I7,r7,q7⟩:=q7;exact⟨x7,σ7,H7,I7.mL,r7,q7⟩
end
end L2
namespace L2
open PySem PySem.Spec PyProof.Rows
noncomputable abbrev R2:=V→V→Hp→VK→Prop
noncomputable def kM(X:Cx)(f:Value→Value→Sem Value)(r:R2):Prop:=
 ∀(pins:List (Addr × Obj)) (s:Shared) (σ:St) (H:Hp) (x y:V) (v u:Value) (Q:VK),Inv X pins σ H s→RelV x v→RelV y u→r x y H Q→
  wpAny (model X.prog X.w) X.A (f v u) (EP X pins σ Q) X.xe s
noncomputable def Jf(X:Cx)(f:Value→Sem Value)(r:V→Hp→VK→Prop):Prop:=
 ∀(pins:List (Addr × Obj)) (s:Shared) (σ:St) (H:Hp) (x:V) (v:Value) (Q:VK),Inv X pins σ H s→RelV x v→r x H Q→
  wpAny (model X.prog X.w) X.A (f v) (EP X pins σ Q) X.xe s
noncomputable def jU(X:Cx)(f:Value)(r:List V→Hp→VK→Prop):Prop:=
 ∀(pins:List (Addr × Obj)) (s:Shared) (σ:St) (H:Hp) (xs:List V) (us:List Value) (Q:VK),Inv X pins σ H s→Vals xs us→r xs H Q→
  wpAny (model X.prog X.w) X.A (call f us) (EP X pins σ Q) X.xe s
noncomputable def JD(X:Cx)(r:V→Hp→(Bool→Hp→Prop)→Prop):Prop:=
 ∀(pins:List (Addr × Obj)) (s:Shared) (σ:St) (H:Hp) (x:V) (v:Value) (Q:Bool→Hp→Prop),Inv X pins σ H s→RelV x v→r x H Q→
  wpAny (model X.prog X.w) X.A (truthy v) (TP X pins σ Q) X.xe s
noncomputable def G3(r:R2)(ta tb:TE):TE:=fun σ H Q=>ta σ H fun x H1=>tb σ H1 fun y H2=>r x y H2 Q
noncomputable def Lk(r:V→Hp→VK→Prop)(ta:TE):TE:=fun σ H Q=>ta σ H fun x H1=>r x H1 Q
noncomputable def rI(C:Int→Int→Prop)(g:Int→Int→V):R2:=fun x y H Q=>∃i j,x= .int i∧y= .int j∧C i j∧Q (g i j) H
noncomputable def zG(g:Int→Int→V):R2:=fun x y H Q=>∃i j,x= .int i∧y= .int j∧Q (g i j) H
noncomputable def rU(g:Int→V):V→Hp→VK→Prop:=fun x H Q=>∃i,x= .int i∧Q (g i) H
section
variable {X:Cx} {a b c:Expr} {ta tb tc:TE} {pos:Pos}
theorem EZ(ha:PE X a ta)(hb:PE X b tb){pins:List (Addr × Obj)}{s:Shared}{σ:St}{H:Hp}{R:V→V→Hp→Prop}(I:Inv X pins σ H s)
 (h:ta σ H fun x H1=>tb σ H1 fun y H2=>R x y H2) {Q:Value→Shared→Prop} {f:Value→Value→Sem Value}
 (hf:∀v u s2 x y H2,Inv X pins σ H2 s2→RelV x v→RelV y u→R x y H2→wpAny (model X.prog X.w) X.A (f v u) Q X.xe s2) :
 wpAny (model X.prog X.w) X.A (eval a X.env) (fun v s₁=>wpAny (model X.prog X.w) X.A (eval b X.env) (fun u s₂=>wpAny (model X.prog X.w) X.A (f v u) Q X.xe s₂) X.xe s₁) X.xe s:=by
 refine dQ (ha pins s σ H _ I h) fun v s1 ⟨x,H1,I1,r1,q1⟩=>?_
 refine dQ (hb pins s1 σ H1 _ I1 q1) fun u s2 ⟨y,H2,I2,r2,q2⟩=>?_
 exact hf v u s2 x y H2 I2 r1 r2 q2
theorem x3{op:Operator}{r:R2}(ho:kM X (binaryOp op) r)(ha:PE X a ta)(hb:PE X b tb):PE X (.BinOp a op b pos) (G3 r ta tb):=by
 intro pins s σ H Q I h
 exact wpAny_BinOp (EZ ha hb I h fun v u s2 x y H2 I2 rx ry q=>ho pins s2 σ H2 x y v u Q I2 rx ry q)
theorem Iq{op:UnaryOp}{r:V→Hp→VK→Prop}(ho:Jf X (unaryOp op) r)(ha:PE X a ta):PE X (.UnaryOp op a pos) (Lk r ta):=by
 intro pins s σ H Q I h
 exact UnaryOp_ (dQ (ha pins s σ H _ I h) fun v s1 ⟨x,H1,I1,r1,q1⟩=>ho pins s1 σ H1 x v Q I1 r1 q1)
theorem Iy{f:Value→Value→Sem Value}{C:Int→Int→Prop}{g:Int→Int→Int}
 (rule:∀(i j:Int) (t u:Tok) (s:Shared) (Q:Value→Shared→Prop) (E:Value→Shared→Prop),C i j→Q (.int (g i j) s.toks) {s with toks:=s.toks+1}→wpAny (model X.prog X.w) X.A (f (.int i t) (.int j u)) Q E s) :
 kM X f (rI C fun i j=> .int (g i j)):=by
 intro pins s σ H x y v u Q I rx ry h
 obtain⟨i,j,rfl,rfl,hc,q⟩:=h
 obtain⟨t,rfl⟩:=rx
 obtain⟨t',rfl⟩:=ry
 exact rule i j t t' s _ _ hc ⟨.int (g i j),H,I.tok _,⟨_,rfl⟩,q⟩
theorem AS{f:Value→Value→Sem Value}{g:Int→Int→Int}
 (rule:∀(i j:Int) (t u:Tok) (s:Shared) (Q:Value→Shared→Prop) (E:Value→Shared→Prop),Q (.int (g i j) s.toks) {s with toks:=s.toks+1}→wpAny (model X.prog X.w) X.A (f (.int i t) (.int j u)) Q E s) :
 kM X f (zG fun i j=> .int (g i j)):=by
 intro pins s σ H x y v u Q I rx ry h
 obtain⟨i,j,rfl,rfl,q⟩:=h
 obtain⟨t,rfl⟩:=rx
 obtain⟨t',rfl⟩:=ry
 exact rule i j t t' s _ _ ⟨.int (g i j),H,I.tok _,⟨_,rfl⟩,q⟩
theorem Gx{f:Value→Value→Sem Value}{g:Int→Int→Bool}
 (rule:∀(i j:Int) (t u:Tok) (s:Shared) (Q:Value→Shared→Prop) (E:Value→Shared→Prop),Q (.bool (g i j)) s→wpAny (model X.prog X.w) X.A (f (.int i t) (.int j u)) Q E s) :
 kM X f (zG fun i j=> .bl (g i j)):=by
 intro pins s σ H x y v u Q I rx ry h
 obtain⟨i,j,rfl,rfl,q⟩:=h
 obtain⟨t,rfl⟩:=rx
 obtain⟨t',rfl⟩:=ry
 exact rule i j t t' s _ _ ⟨.bl (g i j),H,I,rfl,q⟩
noncomputable def K9(i j:Int):Prop:=0 < j∧j < 1073741824
noncomputable def Kq(i j:Int):Prop:=j≠0∧j.natAbs < 1073741824
noncomputable def Jb(i j:Int):Prop:=0≤j∧j≤1000000∧i.natAbs < 2 ^ 64
noncomputable def GO(i j:Int):Prop:=(-(2 ^ 64) < i∧i < 2 ^ 64)∨(-(2 ^ 64) < j∧j < 2 ^ 64)
theorem GO.ok{i j:Int}(h:GO i j):IntMulOk i j:=by
 rcases h with⟨h1,h2⟩ | ⟨h1,h2⟩
 ·exact .of_left (intBits_le_64 h1 h2)
 ·exact .of_right (intBits_le_64 h1 h2)
theorem wF(k:Nat):(0:Int)≤2 ^ k:=by
 rw[two_pow_cast]
 exact Int.natCast_nonneg _
theorem Gb:kM X (binaryOp .Add) (zG fun i j=> .int (i+j)):=AS fun _ _ _ _ _ _ _ q=>add_int q
theorem Gi:kM X (binaryOp .Sub) (zG fun i j=> .int (i - j)):=AS fun _ _ _ _ _ _ _ q=>sub_int q
theorem EJ:kM X (binaryOp .Mult) (rI GO fun i j=> .int (i*j)):=Iy fun _ _ _ _ _ _ _ hc q=>mul_int q hc.ok
theorem FV:kM X (binaryOp .Mod) (rI (fun _ j=>0 < j) fun i j=> .int (i % j)):=Iy fun i j _ _ _ _ _ hc q=>by
 have h1:(0:Int) < j:=hc
 exact mod_int' (by omega) (by rw[Int.fmod_eq_emod_of_nonneg i (by omega)];exact q)
theorem Gh:kM X (binaryOp .Pow) (rI Jb fun i j=> .int (i ^ j.toNat)):=Iy fun _ _ _ _ _ _ _ hc q=>pow_int_small hc.1 hc.2.1 hc.2.2 q
theorem EN:kM X (binaryOp .RShift) (rI (fun _ j=>0≤j) fun i j=> .int (i / 2 ^ j.toNat)):=Iy fun i j _ _ _ _ _ hc q=>
 rshift_int hc (by rw[Int.fdiv_eq_ediv_of_nonneg i (wF _)];exact q)
theorem FC:kM X (binaryOp .BitAnd) (zG fun i j=> .int (Builtin.bitAnd i j)):=AS fun _ _ _ _ _ _ _ q=>and_int q
theorem IB:kM X (binaryOp .BitOr) (zG fun i j=> .int (Builtin.bitOr i j)):=AS fun _ _ _ _ _ _ _ q=>or_int q
theorem GK:kM X (binaryOp .BitXor) (zG fun i j=> .int (Builtin.bitXor i j)):=AS fun _ _ _ _ _ _ _ q=>xor_int q
theorem Lm{f:Value→Sem Value}{g:Int→Int}
 (rule:∀(i:Int) (t:Tok) (s:Shared) (Q:Value→Shared→Prop) (E:Value→Shared→Prop),Q (.int (g i) s.toks) {s with toks:=s.toks+1}→wpAny (model X.prog X.w) X.A (f (.int i t)) Q E s) :
 Jf X f (rU fun i=> .int (g i)):=by
 intro pins s σ H x v Q I rx h
 obtain⟨i,rfl,q⟩:=h
 obtain⟨t,rfl⟩:=rx
 exact rule i t s _ _ ⟨.int (g i),H,I.tok _,⟨_,rfl⟩,q⟩
theorem GQ:Jf X (unaryOp .USub) (rU fun i=> .int (-i)):=Lm fun _ _ _ _ _ q=>neg_int q
end
noncomputable def HP:V→V→Bool
 | .cI, .cI=>true | .cI, .int _=>true | .int _, .cI=>true | .cI, .bl _=>true | .bl _, .cI=>true | .cI, .str _=>true | .str _, .cI=>true
 | .int _, .int _=>true | .bl _, .bl _=>true | .str _, .str _=>true | .byt _, .byt _=>true
 | .int _, .str _=>true | .str _, .int _=>true | .bl _, .str _=>true | .str _, .bl _=>true
 | _,_=>false
noncomputable def LH:R2:=fun x y H Q=>HP x y=true∧Q (.bl (decide (x=y))) H
noncomputable def LP:R2:=fun x y H Q=>HP x y=true∧Q (.bl (!decide (x=y))) H
theorem xN{i j:Int}:decide (V.int i=V.int j)=(i==j):=by
 rw[Bool.eq_iff_iff]
 simp
theorem Bv{i j:Bool}:decide (V.bl i=V.bl j)=(i==j):=by
 rw[Bool.eq_iff_iff]
 simp
theorem xq{i j:Str}:decide (V.str i=V.str j)=(i==j):=by
 rw[Bool.eq_iff_iff]
 simp
theorem x8{i j:Array UInt8}:decide (V.byt i=V.byt j)=(i.toList==j.toList):=by
 rw[Bool.eq_iff_iff]
 cases i
 cases j
 simp
section
variable {X:Cx} {a b c:Expr} {ta tb tc:TE} {pos:Pos}
theorem cm{pins:List (Addr × Obj)}{σ:St}{H:Hp}{s:Shared}{Q:VK}{k k':Bool}(I:Inv X pins σ H s)(q:Q (.bl k) H)(e:k=k'):EP X pins σ Q (.bool k') s:=by
 subst e
 exact⟨.bl k,H,I,rfl,q⟩
theorem AW:kM X (compareOp .Eq) LH:=by
 intro pins s σ H x y v u Q I rx ry h
 obtain⟨hs,q⟩:=h
 cases x with
 | cI=>
   cases rx
   cases y with
   | cI=>cases ry;exact PySem.EqNone.eq_none_none (cm I q (by simp))
   | bl j=>cases ry;exact PySem.EqNone.eq_none_bool (cm I q (by simp))
   | int j=>obtain⟨t',rfl⟩:=ry;exact PySem.EqNone.eq_none_int (cm I q (by simp))
   | str j=>obtain⟨t',rfl⟩:=ry;exact PySem.EqNone.eq_none_str (cm I q (by simp))
   | _=>exact absurd (show false=true from hs) Bool.false_ne_true
 | bl i=>
   cases rx
   cases y with
   | cI=>cases ry;exact PySem.EqNone.eq_bool_none (cm I q (by simp))
   | bl j=>cases ry;exact eq_bool (cm I q Bv)
   | str j=>obtain⟨t',rfl⟩:=ry;exact PySem.EqMixed.eq_bool_str (cm I q (by simp))
   | _=>exact absurd (show false=true from hs) Bool.false_ne_true
 | int i=>
   obtain⟨t,rfl⟩:=rx
   cases y with
   | cI=>cases ry;exact PySem.EqNone.eq_int_none (cm I q (by simp))
   | int j=>obtain⟨t',rfl⟩:=ry;exact eq_int (cm I q xN)
   | str j=>obtain⟨t',rfl⟩:=ry;exact PySem.EqMixed.eq_int_str (cm I q (by simp))
   | _=>exact absurd (show false=true from hs) Bool.false_ne_true
 | str i=>
   obtain⟨t,rfl⟩:=rx
   cases y with
   | cI=>cases ry;exact PySem.EqNone.eq_str_none (cm I q (by simp))
   | bl j=>cases ry;exact PySem.EqMixed.eq_str_bool (cm I q (by simp))
   | int j=>obtain⟨t',rfl⟩:=ry;exact PySem.EqMixed.eq_str_int (cm I q (by simp))
   | str j=>obtain⟨t',rfl⟩:=ry;exact eq_str (cm I q xq)
   | _=>exact absurd (show false=true from hs) Bool.false_ne_true
 | byt i=>
   obtain⟨t,rfl⟩:=rx
   cases y with
   | byt j=>obtain⟨t',rfl⟩:=ry;exact PySem.W.eq_bytes (cm I q x8)
   | _=>exact absurd (show false=true from hs) Bool.false_ne_true
 | _=>cases y <;> exact absurd (show false=true from hs) Bool.false_ne_true
theorem BG:kM X (compareOp .NotEq) LP:=by
 intro pins s σ H x y v u Q I rx ry h
 obtain⟨hs,q⟩:=h
 cases x with
 | cI=>
   cases rx
   cases y with
   | cI=>cases ry;exact PySem.EqNone.ne_none_none (cm I q (by simp))
   | bl j=>cases ry;exact PySem.EqNone.ne_none_bool (cm I q (by simp))
   | int j=>obtain⟨t',rfl⟩:=ry;exact PySem.EqNone.ne_none_int (cm I q (by simp))
   | str j=>obtain⟨t',rfl⟩:=ry;exact PySem.EqNone.ne_none_str (cm I q (by simp))
   | _=>exact absurd (show false=true from hs) Bool.false_ne_true
 | bl i=>
   cases rx
   cases y with
   | cI=>cases ry;exact PySem.EqNone.ne_bool_none (cm I q (by simp))
   | bl j=>cases ry;exact ne_bool (cm I q (congrArg not Bv))
   | str j=>obtain⟨t',rfl⟩:=ry;exact PySem.EqMixed.ne_bool_str (cm I q (by simp))
   | _=>exact absurd (show false=true from hs) Bool.false_ne_true
 | int i=>
   obtain⟨t,rfl⟩:=rx
   cases y with
   | cI=>cases ry;exact PySem.EqNone.ne_int_none (cm I q (by simp))
   | int j=>obtain⟨t',rfl⟩:=ry;exact ne_int (cm I q (congrArg not xN))
   | str j=>obtain⟨t',rfl⟩:=ry;exact PySem.EqMixed.ne_int_str (cm I q (by simp))
   | _=>exact absurd (show false=true from hs) Bool.false_ne_true
 | str i=>
   obtain⟨t,rfl⟩:=rx
   cases y with
   | cI=>cases ry;exact PySem.EqNone.ne_str_none (cm I q (by simp))
   | bl j=>cases ry;exact PySem.EqMixed.ne_str_bool (cm I q (by simp))
   | int j=>obtain⟨t',rfl⟩:=ry;exact PySem.EqMixed.ne_str_int (cm I q (by simp))
   | str j=>obtain⟨t',rfl⟩:=ry;exact ne_str (cm I q (congrArg not xq))
   | _=>exact absurd (show false=true from hs) Bool.false_ne_true
 | byt i=>
   obtain⟨t,rfl⟩:=rx
   cases y with
   | byt j=>obtain⟨t',rfl⟩:=ry;exact PySem.W.ne_bytes (cm I q (congrArg not x8))
   | _=>exact absurd (show false=true from hs) Bool.false_ne_true
 | _=>cases y <;> exact absurd (show false=true from hs) Bool.false_ne_true
theorem Iz:kM X (compareOp .Lt) (zG fun i j=> .bl (decide (i < j))):=Gx fun _ _ _ _ _ _ _ q=>lt_int q
theorem HS:kM X (compareOp .Gt) (zG fun i j=> .bl (decide (j < i))):=Gx fun _ _ _ _ _ _ _ q=>gt_int q
theorem HB:kM X (compareOp .GtE) (zG fun i j=> .bl (decide (j≤i))):=Gx fun _ _ _ _ _ _ _ q=>ge_int q
theorem yX:kM X (compareOp .In) (fun x y H Q=>∃i j,x= .str i∧y= .str j∧Q (.bl (!(Builtin.Str.occurrences j i 0 j.length 1).isEmpty)) H):=by
 intro pins s σ H x y v u Q I rx ry h
 obtain⟨i,j,rfl,rfl,q⟩:=h
 obtain⟨t,rfl⟩:=rx
 obtain⟨t',rfl⟩:=ry
 exact in_str (cm I q rfl)
theorem F6:kM X (compareOp .Is) (fun x y H Q=>y= .cI∧Q (.bl (decide (x= .cI))) H):=by
 intro pins s σ H x y v u Q I rx ry h
 obtain⟨rfl,q⟩:=h
 cases ry
 refine is_none_gen (cm I q ?_)
 cases x <;> first
  | (cases rx;rfl)
  | (obtain⟨t,rfl⟩:=rx;rfl)
noncomputable def isObj:HO→Bool
 | .lst _=>true
 | .ins _ _ _=>true
 | _=>false
theorem bJ(b:Expr){op:CmpOp}(h:op≠ .In:=by decide)(h2:op≠ .NotIn:=by decide):behindInMarks op b=false:=by
 have e1:(op==CmpOp.In)=false:=by cases op <;> first | rfl | exact absurd rfl h
 have e2:(op==CmpOp.NotIn)=false:=by cases op <;> first | rfl | exact absurd rfl h2
 cases b <;> simp [behindInMarks,e1,e2]
theorem x_{op:CmpOp}{r:R2}(ho:kM X (compareOp op) r)(ha:PE X a ta)(hb:PE X b tb)(hm:behindInMarks op b=false):PE X (.Compare a [op] [b] pos) (G3 r ta tb):=by
 intro pins s σ H Q I h
 exact wpAny_Compare1 (EZ ha hb I h fun v u s2 x y H2 I2 rx ry q=>ho pins s2 σ H2 x y v u Q I2 rx ry q) hm
noncomputable def G_(t:TE):TT:=fun σ H Q=>t σ H fun x H'=>∃k,x= .bl k∧Q k H'
theorem xZ{op:CmpOp}{r:R2}(ho:kM X (compareOp op) r)(ha:PE X a ta)(hb:PE X b tb)(hm:behindInMarks op b=false):PT X (.Compare a [op] [b] pos) (G_ (G3 r ta tb)):=by
 intro pins s σ H Q I h
 refine wpAny_isTrue_Compare1 (dQ (ha pins s σ H _ I h) fun v s1 ⟨x,H1,I1,r1,q1⟩=>dQ (hb pins s1 σ H1 _ I1 q1) fun u s2 ⟨y,H2,I2,r2,q2⟩=>
  dQ (ho pins s2 σ H2 x y v u _ I2 r1 r2 q2) fun c s3 ⟨z,H3,I3,r3,k,e,q3⟩=>?_) hm
 subst e
 cases r3
 exact wpAny_truthy_bool ⟨H3,I3,q3⟩
noncomputable def Jg(r r':R2)(ta tb tc:TE):TE:=fun σ H Q=>ta σ H fun x H1=>tb σ H1 fun y H2=>r x y H2 fun z H3=>∃k,z= .bl k∧
 (if k=true then tc σ H3 fun w' H4=>r' y w' H4 Q else Q (.bl false) H3)
noncomputable def Gm(K:PySem.W.Frag)(x:V)(H:Hp)(k:Bool):Prop:=
 match x with
 | .cI=>k=false
 | .bl b=>k=b
 | .int i=>k=(i !=0)
 | .str y=>y.length≤sizeLine∧k=((y.length:Int) !=0)
 | .byt y=>y.size≤sizeLine∧k=((y.size:Int) !=0)
 | .ref p=>(∃xs,mw K H p xs∧k=!xs.isEmpty)∨(∃xs,oJ K H p xs∧k=!xs.isEmpty)∨∃kvs,H p=some (.dK kvs)∧k=!kvs.isEmpty
 | _=>False
theorem vN{κ:Type}{kvs:List (κ × V)}{vs:List (κ × Value)}(r:KV kvs vs):(!vs.isEmpty)=!kvs.isEmpty:=by
 cases r <;> rfl
theorem qf{xs:List V}{its:List Value}(r:Vals xs its):(!its.toArray.isEmpty)=!xs.isEmpty:=by
 cases r <;> simp
theorem nG:(sizeLine:Nat) < 2 ^ 63:=by rw[sizeLine_eq];decide
theorem Gk:JD X (fun x H Q=>∃k,Gm X.K x H k∧Q k H):=by
 intro pins s σ H x v Q I rx h
 obtain⟨k,e,q⟩:=h
 have hl:=nG
 have hs:sizeLine=16777216:=sizeLine_eq
 cases x with
 | cI=>
   cases rx
   have e':k=false:=e
   subst e'
   exact truthy_none ⟨H,I,q⟩
 | bl b=>
   cases rx
   have e':k=b:=e
   subst e'
   exact wpAny_truthy_bool ⟨H,I,q⟩
 | int i=>
   obtain⟨t,rfl⟩:=rx
   have e':k=(i !=0):=e
   subst e'
   exact PySem.P.truthy_int ⟨H,I,q⟩
 | str y=>
   obtain⟨t,rfl⟩:=rx
   obtain⟨hy,e'⟩:y.length≤sizeLine∧k=((y.length:Int) !=0):=e
   subst e'
   exact PySem.P.truthy_str (by omega) ⟨H,I.tok _,q⟩
 | byt y=>
   obtain⟨t,rfl⟩:=rx
   obtain⟨hy,e'⟩:y.size≤sizeLine∧k=((y.size:Int) !=0):=e
   subst e'
   exact PySem.W.truthy_bytes (by omega) ⟨H,I.tok _,q⟩
 | ref p=>
   cases rx
   have e':(∃xs,mw X.K H p xs∧k=!xs.isEmpty)∨(∃xs,oJ X.K H p xs∧k=!xs.isEmpty)∨∃kvs,H p=some (.dK kvs)∧k=!kvs.isEmpty:=e
   rcases e' with⟨xs,hx,e'⟩ | ⟨xs,hx,e'⟩ | ⟨kvs,hx,e'⟩
   ·subst e'
    obtain⟨its,r,pl,hz⟩:=I.list hx
    have hlen:=r.length
    exact wpAny_truthy_list pl.isList (by simp only[List.size_toArray];omega) ⟨H,I.tok _,by rw[qf r];exact q⟩
   ·subst e'
    obtain⟨its,r,pl,hz⟩:=I.tuple hx
    have hlen:=r.length
    exact truthy_tuple pl (by simp only[List.size_toArray];omega) ⟨H,I.tok _,by rw[qf r];exact q⟩
   ·subst e'
    obtain⟨hz,hS,vs,r,m⟩:kvs.length≤sizeLine∧(p==sysModules)=false∧∃vs,KV kvs vs∧s.heap.DictOf (du X.prog X.w) p vs:=I.hok p _ hx
    have hlen:kvs.length=vs.length:=Paired.length r
    exact wpAny_truthy_dict hS m (by omega) ⟨H,I.tok _,by rw[vN r];exact q⟩
 | _=>exact(show False from e).elim
theorem BQ(ha:PE X a ta)(he:∀whole,isTrue a X.env whole=(do let v ←whole;standAt a.pos;holding [v] (truthy v))) :
 PT X a (fun σ H Q=>ta σ H fun x H'=>∃k,Gm X.K x H' k∧Q k H'):=by
 intro pins s σ H Q I h
 exact isTrue_plain (dQ (ha pins s σ H _ I h) fun v s1 ⟨x,H1,I1,r1,q1⟩=>Gk pins s1 σ H1 x v Q I1 r1 q1) (he _)
theorem v8:kM X (binaryOp .Add) (fun x y H Q=>∃i j,x= .str i∧y= .str j∧i.length+j.length≤sizeLine∧Q (.str (i++j)) H):=by
 intro pins s σ H x y v u Q I rx ry h
 obtain⟨i,j,rfl,rfl,hz,q⟩:=h
 obtain⟨t,rfl⟩:=rx
 obtain⟨t',rfl⟩:=ry
 exact add_str (fun t' tk=>⟨.str (i++j),H,I.tok _,⟨_,rfl⟩,q⟩) hz
noncomputable def Hz(b:Expr):Prop:=∀o i,subscripted b false o i=operate [o,i] (getItem o i)
theorem vals1{x:V}{us:List Value}(r:Vals [x] us):∃u,us=[u]∧RelV x u:=by
 cases r with
 | cons r1 r2=>cases r2;exact⟨_,rfl,r1⟩
theorem vals2{x y:V}{us:List Value}(r:Vals [x,y] us):∃u w',us=[u,w']∧RelV x u∧RelV y w':=by
 cases r with
 | cons r1 r2=>
   cases r2 with
   | cons r3 r4=>cases r4;exact⟨_,_,rfl,r1,r3⟩
theorem Ab:jU X (.builtin "abs") (fun xs H Q=>∃i,xs=[.int i]∧Q (.int (if i < 0 then -i else i)) H):=by
 intro pins s σ H xs us Q I r h
 obtain⟨i,rfl,q⟩:=h
 obtain⟨u,rfl,t,rfl⟩:=vals1 r
 exact call_abs_int fun u tk=>⟨.int (if i < 0 then -i else i),H,I.tok _,⟨_,rfl⟩,q⟩
theorem zm(hc:X.calm=true):jU X (.builtin "max") (fun xs H Q=>∃i j,xs=[.int i, .int j]∧Q (.int (if j > i then j else i)) H):=by
 intro pins s σ H xs us Q I r h
 obtain⟨i,j,rfl,q⟩:=h
 obtain⟨u,w',rfl,⟨t,rfl⟩,⟨t',rfl⟩⟩:=vals2 r
 refine max_two_ints (I.ok.hd hc) fun h' tk k=>⟨_,H,I.kept k,?_,q⟩
 by_cases hj:j > i
 ·rw[if_pos hj,if_pos hj];exact⟨_,rfl⟩
 ·rw[if_neg hj,if_neg hj];exact⟨_,rfl⟩
theorem yK(hc:X.calm=true):jU X (.builtin "min") (fun xs H Q=>∃i j,xs=[.int i, .int j]∧Q (.int (if j < i then j else i)) H):=by
 intro pins s σ H xs us Q I r h
 obtain⟨i,j,rfl,q⟩:=h
 obtain⟨u,w',rfl,⟨t,rfl⟩,⟨t',rfl⟩⟩:=vals2 r
 refine min_two_ints (I.ok.hd hc) fun h' tk k=>⟨_,H,I.kept k,?_,q⟩
 by_cases hj:j < i
 ·rw[if_pos hj,if_pos hj];exact⟨_,rfl⟩
 ·rw[if_neg hj,if_neg hj];exact⟨_,rfl⟩
theorem yH:jU X (.type "int") (fun xs H Q=>(∃i,xs=[.int i]∧Q (.int i) H)∨∃k,xs=[.bl k]∧Q (.int (if k then 1 else 0)) H):=by
 intro pins s σ H xs us Q I r h
 rcases h with⟨i,rfl,q⟩ | ⟨k,rfl,q⟩
 ·obtain⟨u,rfl,t,rfl⟩:=vals1 r
  exact call_int_int ⟨.int i,H,I,⟨_,rfl⟩,q⟩
 ·obtain⟨u,rfl,r1⟩:=vals1 r
  cases r1
  exact call_int_bool ⟨.int (if k then 1 else 0),H,I.tok _,⟨_,rfl⟩,q⟩
noncomputable def J2(K:PySem.W.Frag)(x:V)(H:Hp)(n:Nat):Prop:=
 match x with
 | .str y=>y.length≤sizeLine∧n=y.length
 | .byt y=>y.size≤sizeLine∧n=y.size
 | .ref p=>(∃xs,mw K H p xs∧n=xs.length)∨∃xs,oJ K H p xs∧n=xs.length
 | _=>False
theorem Ao:jU X (.builtin "len") (fun xs H Q=>∃x n,xs=[x]∧J2 X.K x H n∧Q (.int n) H):=by
 intro pins s σ H xs us Q I r h
 obtain⟨x,n,rfl,e,q⟩:=h
 obtain⟨u,rfl,rx⟩:=vals1 r
 have hl:=nG
 have hs:sizeLine=16777216:=sizeLine_eq
 cases x with
 | str y=>
   obtain⟨t,rfl⟩:=rx
   obtain⟨hy,e'⟩:y.length≤sizeLine∧n=y.length:=e
   subst e'
   exact len_str (by omega) ⟨.int _,H,I.tok _,⟨_,rfl⟩,q⟩
 | byt y=>
   obtain⟨t,rfl⟩:=rx
   obtain⟨hy,e'⟩:y.size≤sizeLine∧n=y.size:=e
   subst e'
   exact PySem.W.len_bytes (by omega) ⟨.int _,H,I.tok _,⟨_,rfl⟩,q⟩
 | ref p=>
   cases rx
   have e':(∃xs,mw X.K H p xs∧n=xs.length)∨∃xs,oJ X.K H p xs∧n=xs.length:=e
   rcases e' with⟨xs,hx,e'⟩ | ⟨xs,hx,e'⟩
   ·subst e'
    obtain⟨its,r',pl,hz⟩:=I.list hx
    have hlen:=r'.length
    exact Calls.call_len_list pl.isList (by simp only[List.size_toArray];omega) ⟨.int xs.length,H,I.tok _,⟨_,by simp only[List.size_toArray];rw [hlen]⟩,q⟩
   ·subst e'
    obtain⟨its,r',pl,hz⟩:=I.tuple hx
    have hlen:=r'.length
    exact len_tuple pl (by simp only[List.size_toArray];omega) ⟨.int xs.length,H,I.tok _,⟨_,by simp only[List.size_toArray];rw [hlen]⟩,q⟩
 | _=>exact(show False from e).elim
end
end L2
namespace L2
open PySem PySem.Spec PyProof.Rows
structure wK (h:Heap) (x dx C:Addr) (mA:Str→Option Value):Prop where
 obj:h.get? x=some (PySem.W.instObj C dx)
 ns:h.Ns1 dx mA
 ne:dx≠x
theorem y9{h:Heap}{dx:Addr}{mA:Str→Option Value}(n:h.Ns1 dx mA):∃od,h.get? dx=some od∧∀name,PySem.W.lookIn name od=some (mA name):=by
 obtain⟨o,es,ep,ho,hd,hk,_,hm⟩:=n
 refine⟨o,ho,fun name=>?_⟩
 have e:=hm name
 unfold nsFind findBy at e
 rw[←Array.find?_toList] at e
 unfold PySem.W.lookIn
 rw[hd]
 dsimp only
 split
 ·rename_i y q
  rw[q] at e
  exact congrArg some e
 ·rename_i q
  rw[q] at e
  have a:es.toList.any (·.refKey)=false:=by
   rw[List.any_eq_false]
   intro y hy
   obtain⟨z,t,hkey⟩:=hk y (Array.mem_toList_iff.mp hy)
   simp [DictEntry.refKey,hkey]
  have a':¬es.toList.any (·.refKey)=true:=by rw[a];exact Bool.false_ne_true
  rw[if_neg a']
  exact congrArg some e
theorem wK.look{h:Heap}{x dx C:Addr}{mA:Str→Option Value}(I:wK h x dx C mA):∃od,PySem.W.InstAt h x (PySem.W.instObj C dx) C (some od)∧∀name,PySem.W.lookIn name od=some (mA name):=
 let⟨od,ho,hl⟩:=y9 I.ns
 ⟨od,⟨I.obj,rfl,rfl,ho⟩,hl⟩
section
variable {prog:Program} {w:World} {A:Around} {E:Value→Shared→Prop} {s:Shared} {K:PySem.W.Frag} {x dx C f:Addr} {mA:Str→Option Value} {name:Str} {v:Value}
theorem get_map{expr:Bool}{Q:Value→Shared→Prop}(X:K.In s.heap)(I:wK s.heap x dx C mA)(hg:PySem.W.plainGet K C name=true)(hh:PySem.W.hasDictIn K C=true)
 (ha:PySem.W.findIn K (.ref C) name=some none) (hv:mA name=some v) (hv':PySem.W.handedIn v=true) (h:Q v {s with toks:=s.toks+1}) :
 wpAny (model prog w) A (getAttr (.ref x) name expr) Q E s:=by
 obtain⟨od,J,hl⟩:=I.look
 exact PySem.W.get_value X J (PySem.W.plainGet_of hg).1 (PySem.W.findObj_own hh ha rfl (by rw[hl,hv])) hv' h
theorem Ad{pl:Sem Bool}{Q:Value × List Value→Shared→Prop}(X:K.In s.heap)(I:wK s.heap x dx C mA)(hg:PySem.W.plainGet K C name=true)
 (hf:PySem.W.findIn K (.ref C) name=some (some (.ref f))) (ht:PySem.W.isFn K (.ref f)=true) (hv:mA name=none) (h:Q (.ref f,[.ref x]) s) :
 wpAny (model prog w) A (getMethod (.ref x) name pl) Q E s:=by
 obtain⟨od,J,hl⟩:=I.look
 exact PySem.W.method_fn X J (PySem.W.plainGet_of hg).1 (PySem.W.plainGet_of hg).2 hf (beq_iff_eq.mp ht) (by show(PySem.W.lookIn name od).map (·.isSome)=some false;rw [hl,hv];rfl) h
theorem CA{ns:List Str}{Q:Unit→Shared→Prop}(X:K.In s.heap)(I:wK s.heap x dx C mA)
 (hs:PySem.W.findIn K (.ref C) "__setattr__"=some (some (.builtin "object.__setattr__"))) (hp:PySem.W.plainOver K C=true) (ht:PySem.W.takerIn K C name=some none) (hh:PySem.W.hasDictIn K C=true)
 (hw:PySem.Within mA ns) (hsz:ns.length≤sizeLine)
 (h:∀h',wK h' x dx C (fun y=>if y=name then some v else mA y)→Heap.SameBut dx s.heap h'→Q () {s with heap:=h',toks:=s.toks+2}) :
 wpAny (model prog w) A (setAttr (.ref x) name v) Q E s:=by
 obtain⟨od,J,hl⟩:=I.look
 refine PySem.W.set_plain X J hs (PySem.W.osa_open (s:={s with toks:=s.toks+1}) (r:=none) X J hp ht fun b=>?_)
 obtain⟨cd,hc,hd'⟩:=PySem.W.any_some hh
 have hx:s.heap.get? x=some ⟨.ref C,some dx, .plain,#[]⟩:=I.obj
 refine wpAny_bind (wpAny_pure (wpAny_bind (wpAny_bind (wpAny_loadPart hx (wpAny_bind (PySem.W.Looks.here (s:={s with toks:=s.toks+1}) (PySem.W.looks_clsIn X hc) ?_))))))
 rw[hd']
 refine wpAny_pure (a:=some dx) (wpAny_bind (wpAny_pure (wpAny_bind ?_)))
 refine wpAny_nsSet1 (s:={s with toks:=s.toks+1}) I.ns fun h' hn2 hs2=>?_
 obtain⟨oD,esD,epD,hoD,hdD,hcD⟩:=hn2.count (PySem.Within.cons name v hw)
 refine wpAny_bind (wpAny_lookBehind hoD (by rw[hdD];exact pastItsLine_dict (Nat.le_trans hcD (by rw[List.length_cons];omega))) ?_)
 exact wpAny_pure (h _ ⟨(hs2.2 _ (Ne.symm I.ne)).trans I.obj,hn2,I.ne⟩ hs2)
theorem AK{R:Result→Shared→Prop}{vs:List Value}{kw:List (Str × Value)}(X:K.In s.heap)(hm:PySem.W.makesIn K C=true)
 (hi:PySem.W.findIn K (.ref C) "__init__"=some (some (.ref f))) (hf:PySem.W.typeIn K (.ref f)=some (.type "function"))
 (h:codeAny (model prog w) (A.under (.builtin "type.__call__" ⟨.ref C ::vs,kw⟩)) (.call (.ref f) ⟨.ref (s.heap.objs.size+1) ::vs,kw⟩) (PySem.W.InitBack (s.heap.objs.size+1) R)
   {s with heap:=(s.heap.push PySem.W.emptyDict).push (PySem.W.instObj C s.heap.objs.size)}) :
 codeAny (model prog w) A (.call (.ref C) ⟨vs,kw⟩) R s:=by
 obtain⟨hh,g,d,t,os⟩:=s
 exact PySem.W.make_core (PySem.W.makes_of X hm) (PySem.W.looks_findIn X hi) (fun self=>PySem.W.bind_fn X self hf) (.inl rfl) h
end
noncomputable def jy(f:Str)(v:V):List (Str × V)→List (Str × V)
 | []=>[(f,v)]
 | (g,x) ::r=>if g=f then(g,v) ::r else(g,x) ::jy f v r
theorem oA(f g:Str)(v:V):∀fs:List (Str × V),(jy f v fs).lookup g=if g=f then some v else fs.lookup g
 | []=>by
   show List.lookup g [(f,v)]=_
   by_cases h:g=f
   ·have hb:(g==f)=true:=beq_iff_eq.mpr h
    simp only[List.lookup,hb,if_pos h]
   ·have hb:(g==f)=false:=beq_eq_false_iff_ne.mpr h
    simp only[List.lookup,hb,if_neg h]
 | (k,x) ::r=>by
   have ih:=oA f g v r
   rw[show jy f v ((k,x) ::r)=(if k=f then(k,v) ::r else(k,x) ::jy f v r) from rfl]
   by_cases hk:k=f
   ·rw[if_pos hk]
    by_cases h:g=k
    ·have hb:(g==k)=true:=beq_iff_eq.mpr h
     simp only[List.lookup,hb,if_pos (h.trans hk)]
    ·have hb:(g==k)=false:=beq_eq_false_iff_ne.mpr h
     simp only[List.lookup,hb,if_neg (fun e:g=f=>h (e.trans hk.symm))]
   ·rw[if_neg hk]
    by_cases h:g=k
    ·have hb:(g==k)=true:=beq_iff_eq.mpr h
     simp only[List.lookup,hb,if_neg (fun e:g=f=>hk (h.symm.trans e))]
    ·have hb:(g==k)=false:=beq_eq_false_iff_ne.mpr h
     simp only[List.lookup,hb]
     exact ih
theorem nT(f:Str)(v:V):∀fs:List (Str × V),f∈(jy f v fs).map (·.1)∧∀g,g∈fs.map (·.1)→g∈(jy f v fs).map (·.1)
 | []=>⟨by simp [jy],fun g h=>by simp at h⟩
 | (k,x) ::r=>by
   obtain⟨i1,i2⟩:=nT f v r
   rw[show jy f v ((k,x) ::r)=(if k=f then(k,v) ::r else(k,x) ::jy f v r) from rfl]
   by_cases hk:k=f
   ·rw[if_pos hk]
    subst hk
    exact⟨by simp,fun g h=>by simpa using h⟩
   ·rw[if_neg hk]
    refine⟨?_,fun g h=>?_⟩
    ·rw[List.map_cons]
     exact List.mem_cons_of_mem _ i1
    ·rw[List.map_cons] at h ⊢
     rcases List.mem_cons.mp h with e | e
     ·exact List.mem_cons.mpr (.inl e)
     ·exact List.mem_cons_of_mem _ (i2 g e)
theorem oO(f:Str)(v:V):∀fs:List (Str × V),(jy f v fs).length≤fs.length+1
 | []=>by simp [jy]
 | (k,x) ::r=>by
   have ih:=oO f v r
   rw[show jy f v ((k,x) ::r)=(if k=f then(k,v) ::r else(k,x) ::jy f v r) from rfl]
   by_cases hk:k=f
   ·rw[if_pos hk,List.length_cons,List.length_cons];omega
   ·rw[if_neg hk,List.length_cons,List.length_cons];omega
theorem mH.some_of{v:V}{o:Option Value}(r:mH (some v) o):∃u,o=some u∧RelV v u:=by
 cases o with
 | none=>exact(show False from r).elim
 | some u=>exact⟨u,rfl,r⟩
theorem mH.none_of{o:Option Value}(r:mH none o):o=none:=by
 cases o with
 | none=>rfl
 | some u=>exact(show False from r).elim
theorem yR{v:V}{u:Value}(r:RelV v u):PySem.W.handedIn u=true:=by
 cases v with
 | cI=>cases(show u=Value.none from r);rfl
 | bl b=>cases(show u=Value.bool b from r);rfl
 | int i=>obtain⟨t,e⟩:=(show ∃t,u=Value.int i t from r);cases e;rfl
 | str x=>obtain⟨t,e⟩:=(show ∃t,u=Value.str x t from r);cases e;rfl
 | byt b=>obtain⟨t,e⟩:=(show ∃t,u=Value.bytes b t from r);cases e;rfl
 | flt b=>obtain⟨t,e⟩:=(show ∃t,u=Value.float b t from r);cases e;rfl
 | ref a=>cases(show u=Value.ref a from r);rfl
 | ty n=>cases(show u=Value.type n from r);rfl
section
variable {P:Program} {w:World} {H H':Hp} {h h':Heap} {a C dx:Addr} {fs fs':List (Str × V)}
theorem pC(hok:mq P w H h)(e:H a=some (.ins C dx fs)):∃mA,wK h a dx C mA∧(∀f,mH (fs.lookup f) (mA f))∧PySem.Within mA (fs.map (·.1))∧fs.length≤1000∧H dx=some (.own a):=by
 obtain⟨d,z,ne,ob,mA,n,r,q⟩:=(show dJ P w H h a (.ins C dx fs) from hok a _ e)
 exact⟨mA,⟨ob,n,ne⟩,r,q,z,d⟩
end
structure vH (K:PySem.W.Frag) (C:Addr):Prop where
 pg:PySem.W.plainGet K C Str.empty=true
 hd:PySem.W.hasDictIn K C=true
 po:PySem.W.plainOver K C=true
 sa:PySem.W.findIn K (.ref C) "__setattr__"=some (some (.builtin "object.__setattr__"))
theorem vH.get{K:PySem.W.Frag}{C:Addr}(c:vH K C)(f:Str):PySem.W.plainGet K C f=true:=c.pg
noncomputable def eP(K:PySem.W.Frag)(C:Addr)(f:Str):Prop:=PySem.W.findIn K (.ref C) f=some none
theorem eP.Ib{K:PySem.W.Frag}{C:Addr}{f:Str}(n:eP K C f):PySem.W.takerIn K C f=some none:=by
 unfold PySem.W.takerIn
 rw[show PySem.W.findIn K (.ref C) f=some none from n]
 rfl
structure Lx (K:PySem.W.Frag) (C:Addr) (f:Str) (v:V) (u:Value):Prop where
 at_:PySem.W.findIn K (.ref C) f=some (some u)
 rel:RelV v u
 get:PySem.W.specialIn K u "__get__"=some none
 cp:PySem.W.copiedNames.contains f=false
structure Meth (K:PySem.W.Frag) (C:Addr) (m:Str) (f:Addr):Prop where
 at_:PySem.W.findIn K (.ref C) m=some (some (.ref f))
 fn:PySem.W.isFn K (.ref f)=true
 kp:PySem.W.keepIn K (.ref f)=true
section
variable {X:Cx} {pins:List (Addr × Obj)} {σ:St} {H:Hp} {s:Shared} {a C dx:Addr} {fs:List (Str × V)} {f:Str} {v:V} {A:Around} {E:Value→Shared→Prop}
theorem wt{b:Bool}{Q:Value→Shared→Prop}(I:Inv X pins σ H s)(e:H a=some (.ins C dx fs))(c:vH X.K C)(n:eP X.K C f)(l:fs.lookup f=some v)
 (h:∀u s',Inv X pins σ H s'→RelV v u→Q u s'):wpAny (model X.prog X.w) A (getAttr (.ref a) f b) Q E s:=by
 obtain⟨mA,O,r,_,_,_⟩:=pC I.hok e
 obtain⟨u,hu,ru⟩:=mH.some_of (v:=v) (o:=mA f) (by rw[←l];exact r f)
 exact get_map I.nC O (c.get f) c.hd n hu (yR ru) (h u _ (I.tok _) ru)
theorem wO{m:Str}{g:Addr}{pl:Sem Bool}{Q:Value × List Value→Shared→Prop}(I:Inv X pins σ H s)(e:H a=some (.ins C dx fs))(c:vH X.K C)(k:Meth X.K C m g)(l:fs.lookup m=none)
 (h:Q (.ref g,[.ref a]) s):wpAny (model X.prog X.w) A (getMethod (.ref a) m pl) Q E s:=by
 obtain⟨mA,O,r,_,_,_⟩:=pC I.hok e
 have hn:mA m=none:=mH.none_of (by rw[←l];exact r m)
 exact Ad I.nC O (c.get m) k.at_ k.fn hn h
theorem wW{y:V}{u:Value}{Q:Unit→Shared→Prop}(I:Inv X pins σ H s)(e:H a=some (.ins C dx fs))(c:vH X.K C)(n:eP X.K C f)(hl:fs.length < 1000)(ry:RelV y u)
 (h:∀s',Inv X pins σ (upd H a (.ins C dx (jy f y fs))) s'→Q () s'):wpAny (model X.prog X.w) A (setAttr (.ref a) f u) Q E s:=by
 obtain⟨mA,O,r,wi,_,ho⟩:=pC I.hok e
 have hz:(fs.map (·.1)).length≤sizeLine:=by rw[List.length_map,sizeLine_eq];omega
 refine CA I.nC O c.sa c.po n.Ib c.hd wi hz fun h' O' sb=>h _ ?_
 have hd:∃o,h'.get? dx=some o:=let⟨o,_,_,e',_⟩:=O'.ns;⟨o,e'⟩
 refine I.write (x:=a) (e:=dx) (by rw[e];exact True.intro) (.inr ho) (fun b q hb z=>(sb.2 b hb).trans z) hd ?_
 refine⟨by rw[bg O.ne];exact ho,?_,O.ne,O'.obj,_,O'.ns,fun g=>?_,fun g hg=>?_⟩
 ·have:=oO f y fs;omega
 ·show mH ((jy f y fs).lookup g) (if g=f then some u else mA g)
  rw[oA]
  by_cases q:g=f
  ·rw[if_pos q,if_pos q];exact ry
  ·rw[if_neg q,if_neg q];exact r g
 ·by_cases q:g=f
  ·rw[q];exact(nT f y fs).1
  ·refine(nT f y fs).2 g (wi g fun z=>hg ?_)
   show(if g=f then some u else mA g)=none
   rw[if_neg q];exact z
theorem Inv.made(I:Inv X pins σ H s):Inv X pins σ (upd (upd H s.heap.objs.size (.own (s.heap.objs.size+1))) (s.heap.objs.size+1) (.ins C s.heap.objs.size []))
 {s with heap:=(s.heap.push PySem.W.emptyDict).push (PySem.W.instObj C s.heap.objs.size)}:=by
 have e1:(s.heap.push PySem.W.emptyDict).get? s.heap.objs.size=some PySem.W.emptyDict:=Heap.get?_push_size s.heap rfl
 have e2:((s.heap.push PySem.W.emptyDict).push (PySem.W.instObj C s.heap.objs.size)).get? (s.heap.objs.size+1)=some (PySem.W.instObj C s.heap.objs.size):=by
  have:=Heap.get?_push_size (s.heap.push PySem.W.emptyDict) (o:=PySem.W.instObj C s.heap.objs.size) rfl
  rwa [Heap.size_push] at this
 have e3:(s.heap.push PySem.W.emptyDict).Ns s.heap.objs.size (fun _=>none):=⟨PySem.W.emptyDict,#[],_,e1,rfl,(fun e he=>absurd he (by simp)),fun _=>rfl⟩
 have I1:=I.laid (a:=s.heap.objs.size) (o:= .own (s.heap.objs.size+1)) (h':=s.heap.push PySem.W.emptyDict) (t':=s.toks) (fun b u q=>Heap.get?_push_of_some _ q) (Nat.le_refl _) ⟨_,e1⟩
 refine I1.laid (a:=s.heap.objs.size+1) (o:= .ins C s.heap.objs.size []) (t':=s.toks) (fun b u q=>Heap.get?_push_of_some _ q) (Nat.le_of_eq (Heap.size_push _ _)) ?_
 have ne:s.heap.objs.size≠s.heap.objs.size+1:=Nat.ne_of_lt (Nat.lt_succ_self _)
 refine⟨by rw[bg ne,a_],Nat.zero_le _,ne,e2,fun _=>none,(Heap.Ns1.of_empty e3).at fun o q=>Heap.get?_push_of_some _ q,fun _=>True.intro,fun y hy=>absurd rfl hy⟩
theorem Dc{prog:Program}{w:World}{env:Env}{e:Expr}{f:Str}{pos:Pos}{s:Shared}{Q:Value→Shared→Prop}(hb:attributeBase e f env (eval e env)=eval e env)
 (h:wpAny (model prog w) A (eval e env) (fun o s₁=>wpAny (model prog w) A (getAttr o f true) Q E s₁) E s):wpAny (model prog w) A (eval (.Attribute e f pos) env) Q E s:=
 Attribute_any_ h (by rw[arm_eval_Attribute,hb])
end
noncomputable def J0(K:PySem.W.Frag)(ta:TE)(f:Str):TE:=fun σ H Q=>ta σ H fun x H1=>∃a C dx fs v,x= .ref a∧H1 a=some (.ins C dx fs)∧vH K C∧eP K C f∧fs.lookup f=some v∧Q v H1
noncomputable def K8(K:PySem.W.Frag)(ta:TE)(f:Str):TE:=fun σ H Q=>ta σ H fun x H1=>∃a C dx fs v u,x= .ref a∧H1 a=some (.ins C dx fs)∧vH K C∧Lx K C f v u∧fs.lookup f=none∧Q v H1
noncomputable def JG(K:PySem.W.Frag)(ta tv:TE)(f:Str):TS:=fun D σ H=>tv σ H fun y H1=>ta σ H1 fun x H2=>∃a C dx fs,x= .ref a∧H2 a=some (.ins C dx fs)∧vH K C∧eP K C f∧fs.length < 1000∧
 D.nx σ (upd H2 a (.ins C dx (jy f y fs)))
noncomputable def LS(X:Cx)(op:Operator)(rd:V→V→Hp→VK→Prop):Prop:=
 ∀(pins:List (Addr × Obj)) (s:Shared) (σ:St) (H:Hp) (x y:V) (u v:Value) (Q:VK),Inv X pins σ H s→RelV x u→RelV y v→rd x y H Q→wpAny (model X.prog X.w) X.A (inplaceOp op u v) (EP X pins σ Q) X.xe s
noncomputable def IL(K:PySem.W.Frag)(ta tv:TE)(rd:V→V→Hp→VK→Prop)(f:Str):TS:=fun D σ H=>ta σ H fun x H1=>∃a C dx fs v,x= .ref a∧H1 a=some (.ins C dx fs)∧vH K C∧eP K C f∧fs.lookup f=some v∧
 tv σ H1 fun y H2=>rd v y H2 fun z H3=>∃dx' fs',H3 a=some (.ins C dx' fs')∧fs'.length < 1000∧D.nx σ (upd H3 a (.ins C dx' (jy f z fs')))
section
variable {X:Cx} {o e value:Expr} {f:Str} {pos pos' tpos:Pos} {ta tv:TE}
theorem Fz(he:PE X e ta)(hb:attributeBase e f X.env (eval e X.env)=eval e X.env):PE X (.Attribute e f pos) (J0 X.K ta f):=by
 intro pins s σ H Q I h
 refine Dc hb (dQ (he pins s σ H _ I h) fun u s1 ⟨x,H1,I1,rx,a,C,dx,fs,v,ex,ea,c,n,l,q⟩=>?_)
 subst ex
 obtain rfl:u=Value.ref a:=rx
 exact wt I1 ea c n l fun u' s2 I2 ru=>⟨v,H1,I2,ru,q⟩
theorem EL(ha:PE X o ta)(hv:PE X value tv)(hs:swapsWith value (some (.Attribute o f pos')) pos.line X.env=pure false):PS X (.Assign [.Attribute o f pos'] value pos) (JG X.K ta tv f):=by
 intro pins s σ H D I h
 refine plainObj_wpAny_Assign_Attribute (dQ (hv pins s σ H _ I h) fun u s1 ⟨y,H1,I1,ry,q⟩=>dQ (ha pins s1 σ H1 _ I1 q) fun ov s2 ⟨x,H2,I2,rx,a,C,dx,fs,ex,ea,c,n,l,q2⟩=>?_) hs
 subst ex
 obtain rfl:ov=Value.ref a:=rx
 exact wW I2 ea c n l ry fun s3 I3=>⟨σ,_,I3,q2⟩
noncomputable def Lo:V→V→Hp→VK→Prop:=fun x y H Q=>∃i j,x= .int i∧y= .int j∧Q (.int (i+j)) H
noncomputable def Lv:V→V→Hp→VK→Prop:=fun x y H Q=>∃i j,x= .int i∧y= .int j∧Q (.int (i - j)) H
end
section
variable {X:Cx} {pins:List (Addr × Obj)} {σ:St} {H:Hp} {s:Shared} {A:Around} {E:Value→Shared→Prop} {Q:Value→Shared→Prop} {c:Value} {b:Bool}
inductive pe (K:PySem.W.Frag) (H:Hp):V→Value→Prop where
 | cI:pe K H .cI (.type "NoneType")
 | bl (x:Bool):pe K H (.bl x) (.type "bool")
 | int (i:Int):pe K H (.int i) (.type "int")
 | str (x:Str):pe K H (.str x) (.type "str")
 | flt (x:UInt64):pe K H (.flt x) (.type "float")
 | lst {a:Addr} {xs:List V} (e:H a=some (.lst xs)):pe K H (.ref a) (.type "list")
 | iA {a:Addr} {o:Obj} {xs:List V} (e:H a=some (.iA o (.lst xs))):pe K H (.ref a) (.type "list")
 | tup {a:Addr} {xs:List V} (e:H a=some (.tup xs)):pe K H (.ref a) (.type "tuple")
 | dK {a:Addr} {kvs:List (Key × V)} (e:H a=some (.dK kvs)):pe K H (.ref a) (.type "dict")
 | dT {a:Addr} {kvs:List (List Key × V)} (e:H a=some (.dT kvs)):pe K H (.ref a) (.type "dict")
 | ins {a C dx:Addr} {fs:List (Str × V)} (e:H a=some (.ins C dx fs)) (cl:vH K C) (ha:PySem.W.findIn K (.ref C) "__class__"=some (some (.builtin "object.__class__")))
    (hn:PySem.W.specialIn K (.builtin "object.__class__") "__get__"=some (some (.builtin "getset_descriptor.__get__"))) (htk:PySem.W.takesIn K (.builtin "object.__class__")=some true)
    (hm:PySem.W.mroIn K C (.type "object")=some true):pe K H (.ref a) (.ref C)
theorem lD{x:V}{u t:Value}(I:Inv X pins σ H s)(rx:RelV x u)(ty:pe X.K H x t)(e:PySem.W.kitOne X.K t c=some b)(h:∀tk,Q (.bool b) {s with toks:=tk}) :
 wpAny (model X.prog X.w) A (call (.builtin "isinstance") [u,c]) Q E s:=by
 cases ty with
 | cI=>cases(show u=Value.none from rx);exact PySem.W.kia_one PySem.W.kitx_none I.nC True.intro e (fun z=>nomatch z) h
 | bl y=>cases(show u=Value.bool y from rx);exact PySem.W.kia_one PySem.W.kitx_bool I.nC True.intro e (fun z=>nomatch z) h
 | int i=>obtain⟨t,q⟩:=(show ∃t,u=Value.int i t from rx);cases q;exact PySem.W.kia_one PySem.W.kitx_int I.nC True.intro e (fun z=>nomatch z) h
 | str y=>obtain⟨t,q⟩:=(show ∃t,u=Value.str y t from rx);cases q;exact PySem.W.kia_one PySem.W.kitx_str I.nC True.intro e (fun z=>nomatch z) h
 | flt y=>obtain⟨t,q⟩:=(show ∃t,u=Value.float y t from rx);cases q;exact PySem.W.kia_one PySem.W.kitx_float I.nC True.intro e (fun z=>nomatch z) h
 | @lst a xs ea=>
   cases(show u=Value.ref a from rx)
   obtain⟨_,_,n,_,h1⟩:=(show dJ X.prog X.w H s.heap a (.lst xs) from I.hok a _ ea)
   exact PySem.W.kia_one PySem.W.kitx_list I.nC ⟨_,h1,rfl⟩ e (fun z=>nomatch z) h
 | @iA a ob xs ea=>
   cases(show u=Value.ref a from rx)
   obtain⟨_,_,_,n,_,h1⟩:=(show dJ X.prog X.w H s.heap a (.iA ob (.lst xs)) from I.hok a _ ea)
   exact PySem.W.kia_one PySem.W.kitx_list I.nC ⟨_,h1,rfl⟩ e (fun z=>nomatch z) h
 | @tup a xs ea=>
   cases(show u=Value.ref a from rx)
   obtain⟨_,_,_,p⟩:=(show dJ X.prog X.w H s.heap a (.tup xs) from I.hok a _ ea)
   obtain⟨o,h1,h2,_⟩:=p
   exact PySem.W.kia_one PySem.W.kitx_tuple I.nC ⟨o,h1,h2⟩ e (fun z=>nomatch z) h
 | @dK a kvs ea=>
   cases(show u=Value.ref a from rx)
   obtain⟨_,_,vs,_,p⟩:=(show dJ X.prog X.w H s.heap a (.dK kvs) from I.hok a _ ea)
   obtain⟨o,es,ep,h1,h2,_⟩:=p
   exact PySem.W.kia_one PySem.W.kitx_dict I.nC ⟨o,h1,h2.1⟩ e (fun z=>nomatch z) h
 | @dT a kvs ea=>
   cases(show u=Value.ref a from rx)
   obtain⟨_,_,xs,_,o,es,ep,h1,h2,_⟩:=(show dJ X.prog X.w H s.heap a (.dT kvs) from I.hok a _ ea)
   exact PySem.W.kia_one PySem.W.kitx_dict I.nC ⟨o,h1,h2.1⟩ e (fun z=>nomatch z) h
 | @ins a C dx fs ea cl ha hn htk hm=>
   cases(show u=Value.ref a from rx)
   obtain⟨mA,O,_⟩:=pC I.hok ea
   obtain⟨od,J,_⟩:=O.look
   exact PySem.W.kia_one (PySem.W.kitx_own (cl.get _) cl.hd ha hn htk hm) I.nC J e (fun z=>nomatch z) h
end
end L2
namespace L2
open PySem PySem.Spec PyProof.Rows
structure d8 (k:Nat) (A:Around):Prop where
 hd:A.handled=none
 dp:A.depth+3*k+5 < recursionLimit
 un:A.units+16*k+200 < cLine
theorem d8.mono{j k:Nat}{A:Around}(r:d8 k A)(h:j≤k):d8 j A:=⟨r.hd,by have:=r.dp;omega,by have:=r.un;omega⟩
theorem d8.deeper{k:Nat}{A:Around}(r:d8 (k+1) A)(env:Env):d8 k (A.deeper env):=
 ⟨r.hd,by have:=r.dp;show A.depth+1+3*k+5 < _;omega,by have:=r.un;show A.units+3+16*k+200 < _;omega⟩
theorem vQ{A:Around}{C:Addr}{us:List Value}{kw:List (Str × Value)}:(A.under (.builtin "type.__call__" ⟨.ref C ::us,kw⟩)).depth=A.depth+1:=by
 first | rfl | simp [Around.under,Code.weight,Code.isCreation,Code.isGuard,Code.isCaller,Code.frames,Code.isFrame,guardIds]
theorem wj{A:Around}{C:Addr}{us:List Value}{kw:List (Str × Value)}:(A.under (.builtin "type.__call__" ⟨.ref C ::us,kw⟩)).units=A.units+1:=by
 first | rfl | simp [Around.under,Code.cUnits,Code.frames,Code.isFrame]
theorem d8.make{k:Nat}{A:Around}(r:d8 (k+1) A)(C:Addr)(us:List Value)(kw:List (Str × Value)):d8 k (A.under (.builtin "type.__call__" ⟨.ref C ::us,kw⟩)):=
 ⟨r.hd,by have:=r.dp;rw [vQ];omega,by have:=r.un;rw [wj];omega⟩
theorem d8.depth{k:Nat}{A:Around}(r:d8 k A):A.depth < recursionLimit:=by have:=r.dp;omega
theorem d8.units{k:Nat}{A:Around}(r:d8 k A):A.units+64 < cLine:=by have:=r.un;omega
noncomputable def HF:TA:=fun _ H Q=>Q [] H
noncomputable def G7(ta:TE)(tr:TA):TA:=fun σ H Q=>ta σ H fun x H1=>tr σ H1 fun xs H2=>Q (x ::xs) H2
section
variable {X:Cx} {e:Expr} {es:List Expr} {te:TE} {t:TA} {pos:Pos}
theorem iX:PA X [] HF:=fun _ _ _ _ H Q I h=>Calls.spliced_nil ⟨[],H,I, .nil,h⟩
theorem fJ(ha:PE X e te)(hr:PA X es t)(hs:starEach (e ::es) X.env=(false,eval e X.env) ::starEach es X.env:=by rfl):PA X (e ::es) (G7 te t):=by
 intro pos pins s σ H Q I h
 rw[hs]
 show wpAny _ _ (spliced ((false,eval e X.env) ::backTo pos (starEach es X.env))) _ _ s
 refine Calls.spliced_cons (dQ (ha pins s σ H _ I h) fun u s1 ⟨x,H1,I1,r1,q1⟩=>?_)
 exact dQ (hr pos pins s1 σ H1 _ I1 q1) fun us s2 ⟨xs,H2,I2,r2,q2⟩=>⟨x ::xs,H2,I2, .cons r1 r2,q2⟩
noncomputable def Jr(t:TA):TE:=fun σ H Q=>t σ H fun xs H1=>xs.length≤sizeLine∧∀p,H1 p=none→Q (.ref p) (upd H1 p (.tup xs))
noncomputable def JU(t:TA):TE:=fun σ H Q=>t σ H fun xs H1=>xs.length≤sizeLine∧∀p,H1 p=none→Q (.ref p) (upd H1 p (.lst xs))
theorem AF{x1}(h:PA X es t):PE X (.Tuple es x1 pos) (Jr t):=by
 intro pins s σ H Q I hq
 refine wpAny_Tuple_spliced (dQ (h pos pins s σ H _ I hq) fun us s1 ⟨xs,H1,I1,r,z,q⟩=>⟨by rw[←r.length];exact z,?_⟩)
 have hf:H1 s1.heap.objs.size=none:=I1.hok.fresh (Nat.le_refl _)
 refine⟨.ref s1.heap.objs.size,upd H1 s1.heap.objs.size (.tup xs),I1.laid (t':=s1.toks) (fun b u e=>Heap.get?_push_of_some _ e) (Nat.le_refl _) ?_,rfl,q _ hf⟩
 exact⟨z,us,r,⟨_,Heap.get?_push_size _ rfl,rfl,_,rfl⟩⟩
theorem zN(h:PA X es t):PE X (.List es pos) (JU t):=by
 intro pins s σ H Q I hq
 refine wpAny_List_spliced (dQ (h pos pins s σ H _ I hq) fun us s1 ⟨xs,H1,I1,r,z,q⟩=>⟨by rw[←r.length];exact z,?_⟩)
 have hf:H1 s1.heap.objs.size=none:=I1.hok.fresh (Nat.le_refl _)
 refine⟨.ref s1.heap.objs.size,upd H1 s1.heap.objs.size (.lst xs),I1.laid (t':=s1.toks) (fun b u e=>Heap.get?_push_of_some _ e) (Nat.le_refl _) ?_,rfl,q _ hf⟩
 exact⟨z,us,0,r,Heap.get?_push_size _ rfl⟩
end
noncomputable abbrev Sp:=List V→Hp→VK→XK→Prop
noncomputable abbrev B5:=List Env→Hp→Shared→XK→Value→Shared→Prop
structure xg (P:Program) (w:World) (K:PySem.W.Frag) (mg:Str→Option Value) (base:Heap) (A:Around) (outer:List Env) (s:Shared) (H:Hp):Prop where
 frames:A.frames=some outer
 mod:Mod K mg base
 bs:∀b o,base.get? b=some o→s.heap.get? b=some o∧H b=none
 bsz:base.objs.size≤s.heap.objs.size
 pk:s.heap.FunFrames base outer
 frf:∀b∈zI outer,H b=none
 hok:mq P w H s.heap
 bare:AllBare s.gens
noncomputable def CE(outer:List Env)(P:Program)(w:World)(H:Hp)(s:Shared)(Q:VK)(u:Value)(s':Shared):Prop:=
 ∃v H',s'.os=s.os∧AllBare s'.gens∧Un (zI outer) [] H H' s.heap s'.heap∧mq P w H' s'.heap∧RelV v u∧Q v H'
noncomputable def CR(CX:B5)(outer:List Env)(P:Program)(w:World)(H:Hp)(s:Shared)(Q:VK)(E:XK)(r:Result)(s':Shared):Prop:=
 match r with
 | .ok (.ret u)=>CE outer P w H s Q u s'
 | .ok _=>False
 | .error e=>CX outer H s E e s'
structure hJ (P:Program) (w:World) (K:PySem.W.Frag) (mg:Str→Option Value) (base:Heap) (CX:B5) (k:Nat) (f:Addr) (fd:FuncData) (ps:List Str) (sp:Sp):Prop where
 len:∀vs H Q E,sp vs H Q E→vs.length=ps.length
 run:∀(A:Around) (outer:List Env) (s:Shared) (H:Hp) (args:Args) (us:List Value) (vs:List V) (Q:VK) (E:XK),d8 k A→xg P w K mg base A outer s H→BindsTo s fd args (ps.zip us)→Vals vs us→sp vs H Q E→
  codeAny (model P w) A (.call (.ref f) args) (CR CX outer P w H s Q E) s
theorem hJ.imp{P:Program}{w:World}{K:PySem.W.Frag}{mg:Str→Option Value}{base:Heap}{CX:B5}{k:Nat}{f:Addr}{fd:FuncData}{ps:List Str}{sp sp':Sp}(F:hJ P w K mg base CX k f fd ps sp)
 (h:∀vs H Q E,sp' vs H Q E→sp vs H Q E):hJ P w K mg base CX k f fd ps sp':=
 ⟨fun vs H Q E q=>F.len vs H Q E (h _ _ _ _ q),fun A outer s H args us vs Q E hr he hb hv hs=>F.run A outer s H args us vs Q E hr he hb hv (h _ _ _ _ hs)⟩
theorem xg.make{P:Program}{w:World}{K:PySem.W.Frag}{mg:Str→Option Value}{base:Heap}{A:Around}{outer:List Env}{s:Shared}{H:Hp}(e:xg P w K mg base A outer s H)(C:Addr)(us:List Value)(kw:List (Str × Value)) :
 xg P w K mg base (A.under (.builtin "type.__call__" ⟨.ref C ::us,kw⟩)) outer s H:=⟨by first | exact e.frames | (simpa [Around.under,Code.envs,Code.isFrame,pushEnvs] using e.frames),e.mod,e.bs,e.bsz,e.pk,e.frf,e.hok,e.bare⟩
section
variable {X:Cx} {pins:List (Addr × Obj)} {σ:St} {H:Hp} {s s':Shared}
theorem Inv.Hg(I:Inv X pins σ H s):xg X.prog X.w X.K X.mg X.base X.A X.stack s H:=
 ⟨I.ok.frames,I.ok.mod,I.bs,Nat.le_trans I.ok.bsz I.sz,I.stack,I.ym,I.hok,I.bare⟩
theorem Inv.after{Q:VK}{u:Value}(I:Inv X pins σ H s)(h:CE X.stack X.prog X.w H s Q u s'):EP X pins σ Q u s':=by
 obtain⟨v,H',os,bare,un,hok,r,q⟩:=h
 obtain⟨hh,g,d,t,os'⟩:=s'
 obtain rfl:os'=s.os:=os
 exact⟨v,H',I.call (h':=hh) (g':=g) (d':=d) (t':=t) (ch:=[]) un hok bare (fun b z=>absurd z (by simp)),r,q⟩
end
noncomputable def Es(sp:Sp)(dvs:List V)(E:XK)(t:TA):TE:=fun σ H Q=>t σ H fun vs H1=>sp (vs++dvs) H1 Q E
noncomputable def Iw(C:Addr)(m:Str)(sp:Sp)(dvs:List V)(E:XK)(ta:TE)(t:TA):TE:=fun σ H Q=>ta σ H fun x H1=>∃a dx fs,x= .ref a∧H1 a=some (.ins C dx fs)∧fs.lookup m=none∧
 t σ H1 fun vs H2=>sp (x ::(vs++dvs)) H2 Q E
noncomputable def HA(C:Addr)(sp:Sp)(dvs:List V)(E:XK)(t:TA):TE:=fun σ H Q=>t σ H fun vs H1=>∀x dx,H1 x=none→H1 dx=none→dx≠x→
 sp (.ref x ::(vs++dvs)) (upd (upd H1 dx (.own x)) x (.ins C dx [])) (fun v H2=>v= .cI∧Q (.ref x) H2) E
noncomputable def Binds(K:PySem.W.Frag)(fd:FuncData)(ps:List Str)(ds:List Value):Prop:=
 ∀(s:Shared) (us:List Value),K.In s.heap→(us++ds).length=ps.length→BindsTo s fd ⟨us,[]⟩ (ps.zip (us++ds))
theorem Binds.all{K:PySem.W.Frag}{fd:FuncData}{ps:List Str}(h:∀us:List Value,us.length=ps.length→bindArgs fd ⟨us,[]⟩=pure (ps.zip us)):Binds K fd ps []:=fun s us _ hl=>by
 rw[List.append_nil] at hl ⊢
 exact .of_eq (h us hl)
noncomputable def Passes(CX:B5)(X:Cx)(E:XK):Prop:=∀(pins:List (Addr × Obj)) (σ:St) (H:Hp) (s:Shared) (e:Value) (s':Shared),Inv X pins σ H s→CX X.stack H s E e s'→X.xe e s'
section
variable {X:Cx} {CX:B5} {k:Nat} {f C:Addr} {fd:FuncData} {ps:List Str} {sp:Sp} {dvs:List V} {ds:List Value} {E:XK} {x m:Str} {p pos apos:Pos} {e o:Expr} {es:List Expr} {ta:TE} {t:TA}
theorem vT{pins:List (Addr × Obj)}{σ:St}{H:Hp}{s:Shared}{Q:VK}{us:List Value}{vs:List V}(F:hJ X.prog X.w X.K X.mg X.base CX k f fd ps sp)(hr:d8 k X.A)(hb:Binds X.K fd ps ds)(hd:Vals dvs ds)(hx:Passes CX X E)
 (I:Inv X pins σ H s) (r:Vals vs us) (h:sp (vs++dvs) H Q E):wpAny (model X.prog X.w) X.A (call (.ref f) us) (EP X pins σ Q) X.xe s:=by
 have r2:Vals (vs++dvs) (us++ds):=r.append hd
 have hl:(us++ds).length=ps.length:=by rw[←r2.length];exact F.len _ _ _ _ h
 refine wpAny_call (codeAny_mono (F.run X.A X.stack s H ⟨us,[]⟩ (us++ds) (vs++dvs) Q E hr I.Hg (hb s us I.nC hl) r2 h) fun r s' hq=>?_)
 cases r with
 | error e=>exact hx pins σ H s e s' I hq
 | ok fl=>
   cases fl with
   | ret u=>exact I.after hq
   | next=>exact False.elim hq
   | brk=>exact False.elim hq
   | cont=>exact False.elim hq
theorem pA(F:hJ X.prog X.w X.K X.mg X.base CX k f fd ps sp)(hr:d8 k X.A)(hg:Gl X x)(hm:X.mg x=some (.ref f))(hk:PySem.W.keepIn X.K (.ref f)=true)(hb:Binds X.K fd ps ds)(hd:Vals dvs ds)(hx:Passes CX X E)
 (ha:PA X (e ::es) t) (hdb:(x==("__debug__":Str))=false:=by decide) (he:starEach (e ::es) X.env=(false,eval e X.env) ::starEach es X.env:=by rfl) (hpl:(backTo pos (starEach es X.env)).any (·.1)=false:=by rfl) :
 PE X (.Call (.Name x p) (e ::es) [] pos) (Es sp dvs E t):=by
 intro pins s σ H Q I h
 refine wpAny_Call_Name_kw (tm I hg hm ?_ hdb)
 refine PySem.W.callWith_K (h₀:=X.base) I.ok.mod.kin hk (dQ (ha pos pins s σ H _ I h) fun us s1 ⟨vs,H1,I1,r,q⟩=>⟨I1.nC,?_⟩) he hpl
 exact vT F hr hb hd hx I1 r q
theorem z_(F:hJ X.prog X.w X.K X.mg X.base CX k f fd ps sp)(hr:d8 k X.A)(hg:Gl X x)(hm:X.mg x=some (.ref f))(hk:PySem.W.keepIn X.K (.ref f)=true)(hb:Binds X.K fd ps ds)(hd:Vals dvs ds)(hx:Passes CX X E)
 (hdb:(x==("__debug__":Str))=false:=by decide):PE X (.Call (.Name x p) [] [] pos) (Es sp dvs E HF):=by
 intro pins s σ H Q I h
 refine wpAny_Call_Name_kw (tm I hg hm ?_ hdb)
 exact PySem.W.callWith_K0 I.nC hk (vT (us:=[]) F hr hb hd hx I .nil h)
theorem Dt{pl:Sem Bool}(he:PE X o ta)(c:vH X.K C)(hm:Meth X.K C m f)(F:hJ X.prog X.w X.K X.mg X.base CX k f fd ps sp)(hr:d8 k X.A)(hb:Binds X.K fd ps ds)(hd:Vals dvs ds)(hx:Passes CX X E)(ha:PA X (e ::es) t)
 (hst:starEach (e ::es) X.env=(false,eval e X.env) ::starEach es X.env:=by rfl) (hpl:(backTo pos (starEach es X.env)).any (·.1)=false:=by rfl)
 (ht:eval (.Call (.Attribute o m apos) (e ::es) [] pos) X.env=(do
   let ov ←eval o X.env
   standAt apos.atName
   let(f,first) ←holding [ov] (getMethod ov m pl)
   callWith pos f first (backTo pos (starEach (e ::es) X.env)) (backToKw pos (keywordEach [] X.env))):=by rfl) :
 PE X (.Call (.Attribute o m apos) (e ::es) [] pos) (Iw C m sp dvs E ta t):=by
 intro pins s σ H Q I h
 refine PySem.W.methodCall_KW (pl:=pl) (dQ (he pins s σ H _ I h) fun u s1 ⟨x,H1,I1,rx,a,dx,fs,ex,ea,l,q⟩=>?_) ht
 subst ex
 obtain rfl:u=Value.ref a:=rx
 refine wO I1 ea c hm l ?_
 refine PySem.W.callWith_K (first:=[.ref a]) (h₀:=X.base) I.ok.mod.kin hm.kp (dQ (ha pos pins s1 σ H1 _ I1 q) fun us s2 ⟨vs,H2,I2,r,q2⟩=>⟨I2.nC,?_⟩) hst hpl
 exact vT (us:= .ref a ::us) (vs:= .ref a ::vs) F hr hb hd hx I2 (.cons rfl r) q2
structure Mk (K:PySem.W.Frag) (C f:Addr):Prop where
 makes:PySem.W.makesIn K C=true
 init:PySem.W.findIn K (.ref C) "__init__"=some (some (.ref f))
 fn:PySem.W.isFn K (.ref f)=true
 kp:PySem.W.keepIn K (.ref C)=true
theorem z6{pins:List (Addr × Obj)}{σ:St}{H:Hp}{s:Shared}{Q:VK}{us:List Value}{vs:List V}(M:Mk X.K C f)(F:hJ X.prog X.w X.K X.mg X.base CX k f fd ps sp)(hr:d8 (k+1) X.A)(hb:Binds X.K fd ps ds)(hd:Vals dvs ds)
 (hx:Passes CX X E) (I:Inv X pins σ H s) (r:Vals vs us)
 (h:∀x dx,H x=none→H dx=none→dx≠x→sp (.ref x ::(vs++dvs)) (upd (upd H dx (.own x)) x (.ins C dx [])) (fun v H2=>v= .cI∧Q (.ref x) H2) E) :
 wpAny (model X.prog X.w) X.A (call (.ref C) us) (EP X pins σ Q) X.xe s:=by
 have hq:=h (s.heap.objs.size+1) s.heap.objs.size (I.hok.fresh (Nat.le_succ _)) (I.hok.fresh (Nat.le_refl _)) (Nat.ne_of_lt (Nat.lt_succ_self _))
 have I2:=Inv.made (C:=C) I
 have r2:Vals (V.ref (s.heap.objs.size+1) ::(vs++dvs)) (Value.ref (s.heap.objs.size+1) ::(us++ds)):= .cons rfl (r.append hd)
 have hl:(Value.ref (s.heap.objs.size+1) ::us++ds).length=ps.length:=by
  have e:=r2.length
  rw[F.len _ _ _ _ hq] at e
  exact e.symm
 refine wpAny_call (AK (f:=f) I.nC M.makes M.init (beq_iff_eq.mp M.fn) (codeAny_mono (F.run _ X.stack _ _ ⟨Value.ref (s.heap.objs.size+1) ::us,[]⟩ (Value.ref (s.heap.objs.size+1) ::(us++ds)) _ _ E (hr.make C us [])
  (I2.Hg.make C us []) (hb _ (Value.ref (s.heap.objs.size+1) ::us) I2.nC hl) r2 hq) fun r s' hq'=>?_))
 cases r with
 | error e=>exact hx pins σ _ _ e s' I2 hq'
 | ok fl=>
   cases fl with
   | ret u=>
     obtain⟨v,H',I3,rv,ev,q3⟩:=I2.after hq'
     subst ev
     exact⟨rv,⟨V.ref (s.heap.objs.size+1),H',I3,rfl,q3⟩⟩
   | next=>exact False.elim hq'
   | brk=>exact False.elim hq'
   | cont=>exact False.elim hq'
theorem DZ(M:Mk X.K C f)(F:hJ X.prog X.w X.K X.mg X.base CX k f fd ps sp)(hr:d8 (k+1) X.A)(hg:Gl X x)(hm:X.mg x=some (.ref C))(hb:Binds X.K fd ps ds)(hd:Vals dvs ds)(hx:Passes CX X E)
 (ha:PA X (e ::es) t) (hdb:(x==("__debug__":Str))=false:=by decide) (he:starEach (e ::es) X.env=(false,eval e X.env) ::starEach es X.env:=by rfl) (hpl:(backTo pos (starEach es X.env)).any (·.1)=false:=by rfl) :
 PE X (.Call (.Name x p) (e ::es) [] pos) (HA C sp dvs E t):=by
 intro pins s σ H Q I h
 refine wpAny_Call_Name_kw (tm I hg hm ?_ hdb)
 refine PySem.W.callWith_K (h₀:=X.base) I.ok.mod.kin M.kp (dQ (ha pos pins s σ H _ I h) fun us s1 ⟨vs,H1,I1,r,q⟩=>⟨I1.nC,?_⟩) he hpl
 exact z6 M F hr hb hd hx I1 r q
end
noncomputable def PK(X:Cx)(kws:List Keyword)(t:TA):Prop:=
 ∀(pos:Pos) (pins:List (Addr × Obj)) (s:Shared) (σ:St) (H:Hp) (Q:List V→Hp→Prop),Inv X pins σ H s→t σ H Q→wpAny (model X.prog X.w) X.A (evalAll ((backToKw pos (keywordEach kws X.env)).map (·.2))) (AP X pins σ Q) X.xe s
section
variable {X:Cx} {CX:B5} {k:Nat} {f C:Addr} {fd:FuncData} {ps ks:List Str} {sp:Sp} {E:XK} {x m:Str} {p pos apos kpos:Pos} {e o:Expr} {es:List Expr} {kws:List Keyword} {te ta:TE} {t tk:TA} {nm:Option Str}
structure Jk (K:PySem.W.Frag) (fd:FuncData) (ps ks:List Str) (g:List Value→List Value→List Value) (gV:List V→List V→List V):Prop where
 to:∀(s:Shared) (us ws:List Value),K.In s.heap→(g us ws).length=ps.length→BindsTo s fd ⟨us,ks.zip ws⟩ (ps.zip (g us ws))
 rel:∀{vs:List V} {us:List Value} {zs:List V} {ws:List Value},Vals vs us→Vals zs ws→Vals (gV vs zs) (g us ws)
noncomputable def Jt(sp:Sp)(gV:List V→List V→List V)(E:XK)(t tk:TA):TE:=fun σ H Q=>t σ H fun vs H1=>tk σ H1 fun zs H2=>sp (gV vs zs) H2 Q E
variable {g:List Value→List Value→List Value} {gV:List V→List V→List V}
end
structure ba (N P:List Str) (sc:Scope):Prop where
 kind:sc.kind= .function
 co:sc.isCoroutine=false
 gen:sc.isGenerator=false
 nd:N.Nodup
 pre:N.take P.length=P
 par:∀x∈P,sc.names.lookup x=some .local∨sc.names.lookup x=some .cell
 nofree:∀y∈sc.names,y.2≠ .free
theorem rZ{kindOf:Str→Option NameKind}{x:Str}:∀{binds:List (Str × Value)} {m:Str→Option Value},(∀v,(x,v) ∉ binds)→bindL kindOf binds m x=m x
 | [],_,_=>rfl
 | (n,v) ::r,m,h=>by
   unfold bindL
   rw[rZ fun w hw=>h w (List.mem_cons_of_mem _ hw)]
   split
   ·have:x≠n:=by rintro rfl;exact h v List.mem_cons_self
    simp [this]
   ·rfl
theorem si{kindOf:Str→Option NameKind}{x:Str}:∀{binds:List (Str × Value)} {m:Str→Option Value},(∀v,(x,v) ∉ binds)→bindC kindOf binds m x=m x
 | [],_,_=>rfl
 | (n,v) ::r,m,h=>by
   unfold bindC
   rw[si fun w hw=>h w (List.mem_cons_of_mem _ hw)]
   split
   ·rfl
   ·have:x≠n:=by rintro rfl;exact h v List.mem_cons_self
    simp [this]
theorem rH{kindOf:Str→Option NameKind}{x:Str}{v:Value}:∀{P:List Str} {vs:List Value} {i:Nat} {m:Str→Option Value},P.Nodup→P[i]? =some x→vs[i]? =some v→kindOf x=some .local→
 bindL kindOf (P.zip vs) m x=some v
 | [],_,_,_,_,h,_,_=>by simp at h
 | _ ::_,[],_,_,_,_,h,_=>by simp at h
 | p ::P,w ::vs,0,m,nd,h1,h2,hk=>by
   simp at h1 h2;subst h1;subst h2
   show bindL kindOf ((p,w) ::P.zip vs) m p=_
   unfold bindL
   rw[rZ fun v hv=>(List.nodup_cons.mp nd).1 (List.of_mem_zip hv).1,if_pos hk]
   simp
 | p ::P,w ::vs,i+1,m,nd,h1,h2,hk=>by
   show bindL kindOf ((p,w) ::P.zip vs) m x=_
   unfold bindL
   exact rH (i:=i) (List.nodup_cons.mp nd).2 (by simpa using h1) (by simpa using h2) hk
theorem sg{kindOf:Str→Option NameKind}{x:Str}{v:Value}:∀{P:List Str} {vs:List Value} {i:Nat} {m:Str→Option Value},P.Nodup→P[i]? =some x→vs[i]? =some v→kindOf x≠some .local→
 bindC kindOf (P.zip vs) m x=some v
 | [],_,_,_,_,h,_,_=>by simp at h
 | _ ::_,[],_,_,_,_,h,_=>by simp at h
 | p ::P,w ::vs,0,m,nd,h1,h2,hk=>by
   simp at h1 h2;subst h1;subst h2
   show bindC kindOf ((p,w) ::P.zip vs) m p=_
   unfold bindC
   rw[si fun v hv=>(List.nodup_cons.mp nd).1 (List.of_mem_zip hv).1,if_neg hk]
   simp
 | p ::P,w ::vs,i+1,m,nd,h1,h2,hk=>by
   show bindC kindOf ((p,w) ::P.zip vs) m x=_
   unfold bindC
   exact sg (i:=i) (List.nodup_cons.mp nd).2 (by simpa using h1) (by simpa using h2) hk
noncomputable def start(N:List Str)(vs:List V):St:=vs.map some++List.replicate (N.length - vs.length) none
noncomputable def qi(CX:B5)(P:Program)(w:World)(K:PySem.W.Frag)(mg:Str→Option Value)(base:Heap)(N:List Str)(qual:Str)(scope:Scope)(f:Addr)(cd:Value)(A:Around)(outer:List Env)(s:Shared)(H:Hp)(E:XK):Cx where
 prog:=P
 w:=w
 K:=K
 mg:=mg
 base:=base
 A:=A.deeper (envOfC qual scope s.heap.objs.size f cd)
 N:=N
 s₀:=s
 H₀:=H
 env:=envOfC qual scope s.heap.objs.size f cd
 outer:=outer
 stack:=envOfC qual scope s.heap.objs.size f cd ::outer
 ex:=[]
 calm:=true
 fn:=fun _=>true
 pn:=[]
 xe:=fun e s'=>wpAny (model P w) (A.deeper (envOfC qual scope s.heap.objs.size f cd)) (leaving (envOfC qual scope s.heap.objs.size f cd) e) (fun _ s''=>CX outer H s E e s'') (fun e' s''=>CX outer H s E e' s'') s'
theorem vD{sc:Scope}{n:Nat}{x:Str}(h:sc.names.lookup x=some .cell):∃c,(cellsFrom n sc.names []).lookup x=some c:=by
 have q:=PySem.W.cellsFrom_some sc.names n [] (.inl h)
 exact Option.isSome_iff_exists.mp q
theorem yI{CX:B5}{P:Program}{w:World}{K:PySem.W.Frag}{mg:Str→Option Value}{base:Heap}{N ps:List Str}{qual:Str}{scope:Scope}{f:Addr}{cd:Value}{A:Around}{outer:List Env}{s s1:Shared}{H:Hp}{E:XK}{us:List Value}{vs:List V}
 (S:ba N ps scope) (hd:A.handled=none) (e0:xg P w K mg base A outer s H) (hl:vs.length=ps.length) (r:Vals vs us)
 (x:InCallC s s.heap.objs.size (bindL (envOfC qual scope s.heap.objs.size f cd).kindOf (ps.zip us) fun _=>none) (cellsFrom (s.heap.objs.size+1) scope.names []) (bindC (envOfC qual scope s.heap.objs.size f cd).kindOf (ps.zip us) fun _=>none) s1) :
 Inv (qi CX P w K mg base N qual scope f cd A outer s H E) [] (start N vs) H s1:=by
 have hpl:ps.length≤N.length:=by have:=congrArg List.length S.pre;rw [List.length_take] at this;omega
 obtain⟨h1,tk,rfl,hk⟩:=x.done
 have noA:∀b:Addr,b ∉ (qi CX P w K mg base N qual scope f cd A outer s H E).ex:=fun b z=>absurd (show b∈([]:List Addr) from z) (by simp)
 refine⟨⟨e0.mod,S.kind,rfl,rfl,Nat.le_refl _,fun y z c h1 h2=>?_,fun y hy=>?_,fun y c _ h=>?_,fun _=>hd,Around.frames_deeper e0.frames, .inr ⟨rfl,rfl⟩,fun b z=>absurd z (noA b),e0.bs,e0.bsz,fun b _ _=>noA b,fun b z=>absurd z (noA b),e0.pk,e0.frf⟩,
  rfl,e0.bare,Un.kept hk,⟨_,x.toInCall.ns,fun i y v h1 h2 h3=>?_⟩,fun y c h=>⟨_,x.cell y c h⟩,e0.hok.fresh (Nat.le_refl _),fun y c h=>?_,fun p hp=>absurd (show p∈([]:List (Addr × Obj)) from hp) (by simp),e0.hok.kept hk,?_⟩
 ·exact name_of_addr x.apart (PySem.mem_of_lookup h1) (PySem.mem_of_lookup h2)
 ·have hy:scope.names.lookup y=some .cell∨scope.names.lookup y=some .free:=hy
  rcases hy with hy | hy
  ·exact vD hy
  ·exact absurd rfl (S.nofree _ (PySem.mem_of_lookup hy))
 ·exact Nat.le_of_lt (x.above y c (PySem.mem_of_lookup h))
 ·have hi:i < vs.length:=by
   unfold start at h2
   by_cases hi:i < vs.length
   ·exact hi
   ·rw[List.getElem?_append_right (by simpa using hi)] at h2
    rw[List.getElem?_replicate] at h2
    split at h2 <;> cases h2
  have ha:vs[i]? =some v:=by
   unfold start at h2
   rw[List.getElem?_append_left (by simpa using hi),List.getElem?_map] at h2
   cases e:vs[i]? with
   | none=>rw [e] at h2;cases h2
   | some a=>rw [e] at h2;cases h2;rfl
  obtain⟨u,hu,rv⟩:=r.get ha
  have hp:ps[i]? =some y:=by
   rw[←S.pre,List.getElem?_take_of_lt (by omega)];exact h1
  have ndP:ps.Nodup:=by rw[←S.pre];exact S.nd.sublist (List.take_sublist _ _)
  refine⟨u,rv,?_⟩
  rcases S.par y (List.mem_of_getElem? hp) with k | k
  ·exact .inl ⟨k,rH ndP hp hu k⟩
  ·obtain⟨c,e⟩:=vD (n:=s.heap.objs.size+1) k
   refine .inr ⟨.inl k,c,e,?_⟩
   have q:=x.cell y c e
   rw[sg ndP hp hu (by show scope.names.lookup y≠_;rw [k];decide)] at q
   exact q
 ·exact e0.hok.fresh (Nat.le_of_lt (x.above y c (PySem.mem_of_lookup h)))
 ·unfold start
  show _=N.length
  rw[List.length_append,List.length_map,List.length_replicate]
  omega
theorem Iv{CX:B5}{P:Program}{w:World}{K:PySem.W.Frag}{mg:Str→Option Value}{base:Heap}{k:Nat}{f:Addr}{name qual:Str}{params:Arguments}{body:List Stmt}{scope:Scope}{dV kV doc pm cdv ct oc:Value}{an od:Option Addr}
 {osl:Array (Option Value)} {N ps:List Str} {sp:Sp} (lk:K.lookup f=some ⟨oc,od, .func (PySem.W.fnOf name qual params body scope dV kV doc pm an cdv ct),osl⟩) (hcd:PySem.W.codeIn K cdv qual=true) (S:ba N ps scope)
 (len:∀vs H Q E,sp vs H Q E→vs.length=ps.length)
 (hbody:∀(A:Around) (outer:List Env) (s:Shared) (H:Hp) (vs:List V) (Q:VK) (E:XK),d8 k (A.deeper (envOfC qual scope s.heap.objs.size f cdv))→sp vs H Q E→
   ∃t,uc (qi CX P w K mg base N qual scope f cdv A outer s H E) body t∧t {nx:=fun _ H'=>Q .cI H',rt:=Q} (start N vs) H) :
 hJ P w K mg base CX (k+1) f (PySem.W.fnOf name qual params body scope dV kV doc pm an cdv ct) ps sp:=by
 refine⟨len,fun A outer s H args us vs Q E hr e0 hb r hsp=>?_⟩
 have hl:=len _ _ _ _ hsp
 have KX:K.In s.heap:=e0.mod.kin.keeps fun b o e=>(e0.bs b o e).1
 have lim:s.heap.NoLimit:=e0.mod.nolimit.keeps fun b o e=>(e0.bs b o e).1
 have hkind:∀y∈ps.zip us,scope.names.lookup y.1=some .local∨(scope.names.lookup y.1=some .cell∧((cellsFrom (s.heap.objs.size+1) scope.names []).lookup y.1).isSome=true):=fun⟨n,v⟩ hy=>by
  rcases S.par n (List.of_mem_zip hy).1 with q | q
  ·exact .inl q
  ·exact .inr ⟨q,PySem.W.cellsFrom_some _ _ _ (.inl q)⟩
 refine codeAny_call_function hr.depth (KX _ _ lk) rfl S.co S.gen rfl (PySem.W.codeRec_of KX hcd) (hb _ _ _ _ ?_)
 refine wpAny_newFunctionEnv_cells S.kind hkind fun env he s1 x=>?_
 subst he
 refine⟨lim.keeps x.toInCall.keep,codeAny_func ?_⟩
 obtain⟨t,ht,hq⟩:=hbody A outer s H vs Q E (hr.deeper _) hsp
 have I:Inv (qi CX P w K mg base N qual scope f cdv A outer s H E) [] (start N vs) H s1:=yI S hr.hd e0 hl r x
 refine wpAny_mono (ht [] s1 (start N vs) H _ I hq) (fun fl s' hs=>?_) fun e s' hs=>hs
 have fin:∀{σ':St} {H':Hp} {v:V} {u:Value},Inv (qi CX P w K mg base N qual scope f cdv A outer s H E) [] σ' H' s'→RelV v u→Q v H'→CE outer P w H s Q u s':=
  fun {σ' H' v u} J rv q=>⟨v,H',J.os,J.bare,J.base,J.hok,rv,q⟩
 cases fl with
 | ret u=>
   obtain⟨v,σ',H',J,rv,q⟩:=hs
   exact fin J rv q
 | next=>
   obtain⟨σ',H',J,q⟩:=hs
   exact fin (v:=V.cI) (u:=Value.none) J rfl q
 | brk=>
   obtain⟨_,_,_,q⟩:=hs
   exact False.elim q
 | cont=>
   obtain⟨_,_,_,q⟩:=hs
   exact False.elim q
end L2
namespace L2
open PySem PySem.Spec PyProof.Rows
section
variable {X:Cx} {x:Str} {p pos:Pos} {e:Expr} {es:List Expr} {t:TA} {id T:String} {r:List V→Hp→VK→Prop}
noncomputable def J8(r:List V→Hp→VK→Prop)(t:TA):TE:=fun σ H Q=>t σ H fun vs H1=>r vs H1 Q
theorem qv(hc:jU X (.builtin id) r)(hg:Gl X x)(hm:X.mg x=none)(hv:bootBuiltins x=some (.builtin id))(ha:PA X (e ::es) t)(hn:x≠"__name__":=by decide)(hdb:(x==("__debug__":Str))=false:=by decide)
 (he:starEach (e ::es) X.env=(false,eval e X.env) ::starEach es X.env:=by rfl) (hpl:(backTo pos (starEach es X.env)).any (·.1)=false:=by rfl):PE X (.Call (.Name x p) (e ::es) [] pos) (J8 r t):=by
 intro pins s σ H Q I h
 refine wpAny_Call_Name_kw (l7 I hg hm hv ?_ hn hdb)
 exact PyProof.Rows.callWith_builtin1 (dQ (ha pos pins s σ H _ I h) fun us s1 ⟨vs,H1,I1,r1,q1⟩=>hc pins s1 σ H1 vs us Q I1 r1 q1) he hpl
theorem zx(hc:jU X (.type T) r)(hg:Gl X x)(hm:X.mg x=none)(hv:bootBuiltins x=some (.type T))(ha:PA X (e ::es) t)(hn:x≠"__name__":=by decide)(hdb:(x==("__debug__":Str))=false:=by decide)
 (he:starEach (e ::es) X.env=(false,eval e X.env) ::starEach es X.env:=by rfl) (hpl:(backTo pos (starEach es X.env)).any (·.1)=false:=by rfl):PE X (.Call (.Name x p) (e ::es) [] pos) (J8 r t):=by
 intro pins s σ H Q I h
 refine wpAny_Call_Name_kw (l7 I hg hm hv ?_ hn hdb)
 exact PyProof.Rows.callWith_type1 (dQ (ha pos pins s σ H _ I h) fun us s1 ⟨vs,H1,I1,r1,q1⟩=>hc pins s1 σ H1 vs us Q I1 r1 q1) he hpl
end
end L2
namespace L2
open PySem PySem.Spec PyProof.Rows
section
variable {κ:Type} [DecidableEq κ]
noncomputable def k6(kvs:List (κ × V))(k:κ):Option V:=(kvs.find? fun kv=>decide (kv.1=k)).map (·.2)
noncomputable def putK(kvs:List (κ × V))(k:κ)(v:V):List (κ × V):=
 if(kvs.any fun kv=>decide (kv.1=k))=true then kvs.map (fun kv=>if kv.1=k then(kv.1,v) else kv) else kvs++[(k,v)]
noncomputable def zX(kvs:List (κ × V))(k:κ):List (κ × V):=kvs.filter fun kv=>decide (kv.1≠k)
theorem uM{p:κ × V}{r:List (κ × V)}{k:κ}(e:p.1=k):k6 (p ::r) k=some p.2:=by simp [k6,List.find?_cons,e]
theorem uz{p:κ × V}{r:List (κ × V)}{k:κ}(e:¬p.1=k):k6 (p ::r) k=k6 r k:=by simp [k6,List.find?_cons,e]
theorem uu(kvs:List (κ × V))(k:κ)(v:V):(putK kvs k v).length≤kvs.length+1:=by
 unfold putK
 split
 ·rw[List.length_map];omega
 ·rw[List.length_append,List.length_cons,List.length_nil];omega
theorem mH.getD{o:Option V}{u:Option Value}{d:V}{d':Value}(r:mH o u)(rd:RelV d d'):RelV (o.getD d) (u.getD d'):=by
 cases o with
 | none=>cases u with
   | none=>exact rd
   | some _=>exact(show False from r).elim
 | some _=>cases u with
   | none=>exact(show False from r).elim
   | some _=>exact r
theorem KV.val{kvs:List (κ × V)}{vs:List (κ × Value)}(r:KV kvs vs)(k:κ):mH (k6 kvs k) (valueAt vs k):=by
 unfold KV at r
 induction r with
 | nil=>exact True.intro
 | @cons p q ps qs h t ih=>
   obtain⟨h1,h2⟩:=h
   by_cases e:p.1=k
   ·have e':q.1=k:=h1.symm.trans e
    have b:valueAt (q ::qs) k=some q.2:=by simp [valueAt,List.find?_cons,e']
    rw[uM e,b];exact h2
   ·have e':¬q.1=k:=fun z=>e (h1.trans z)
    have b:valueAt (q ::qs) k=valueAt qs k:=by simp [valueAt,List.find?_cons,e']
    rw[uz e,b];exact ih
theorem KV.any{kvs:List (κ × V)}{vs:List (κ × Value)}(r:KV kvs vs)(k:κ):(kvs.any fun kv=>decide (kv.1=k))=vs.any fun kv=>decide (kv.1=k):=by
 unfold KV at r
 induction r with
 | nil=>rfl
 | cons h t ih=>rw [List.any_cons,List.any_cons,ih,h.1]
theorem KV.JA{kvs:List (κ × V)}{vs:List (κ × Value)}(r:KV kvs vs)(k:κ){y:V}{u:Value}(ry:RelV y u) :
 KV (kvs.map fun kv=>if kv.1=k then(kv.1,y) else kv) (vs.map fun kv=>if kv.1=k then(kv.1,u) else kv):=by
 unfold KV at r ⊢
 induction r with
 | nil=>exact .nil
 | @cons p q ps qs h t ih=>
   rw[List.map_cons,List.map_cons]
   refine .cons ?_ ih
   obtain⟨h1,h2⟩:=h
   by_cases e:p.1=k
   ·rw[if_pos e,if_pos (h1.symm.trans e)];exact⟨h1,ry⟩
   ·rw[if_neg e,if_neg (fun z=>e (h1.trans z))];exact⟨h1,h2⟩
theorem KV.put{kvs:List (κ × V)}{vs:List (κ × Value)}(r:KV kvs vs)(k:κ){y:V}{u:Value}(ry:RelV y u):KV (putK kvs k y) (stored vs k u):=by
 unfold putK stored
 rw[r.any k]
 by_cases e:(vs.any fun kv=>decide (kv.1=k))=true
 ·rw[if_pos e,if_pos e];exact r.JA k ry
 ·rw[if_neg e,if_neg e];exact Paired.snoc r ⟨rfl,ry⟩
end
theorem Ah{P:Program}{w:World}{k:Key}{u:Value}(r:RelV (kV k) u):(du P w).is k u=true:=by
 cases k with
 | inl i=>obtain⟨t,e⟩:=(show ∃t,u=Value.int i t from r);subst e;exact vy P w i t
 | inr x=>obtain⟨t,e⟩:=(show ∃t,u=Value.str x t from r);subst e;exact vE P w x t
theorem rO{P:Program}{w:World}:∀{ks:List Key} {us:List Value},Vals (ks.map kV) us→ItemsAre (du P w) ks us
 | [],_,r=>by rw[List.map_nil] at r;cases r;exact .nil
 | k ::ks,_,r=>by
   rw[List.map_cons] at r
   cases r with
   | cons h t=>exact .cons (Ah h) (rO t)
noncomputable abbrev KT(H:Hp):List (List Key × V)→List (List Key × Addr × Value)→Prop:=Paired fun p q=>p.1=q.1∧H q.2.1=some (.tup (p.1.map kV))∧RelV p.2 q.2.2
theorem KT.val{H:Hp}{kvs:List (List Key × V)}{xs:List (List Key × Addr × Value)}(r:KT H kvs xs)(k:List Key):mH (k6 kvs k) ((atKey xs k).map (·.2)):=by
 induction r with
 | nil=>exact True.intro
 | @cons p q ps qs h t ih=>
   obtain⟨h1,_,h2⟩:=h
   by_cases e:p.1=k
   ·have e':q.1=k:=h1.symm.trans e
    have b:atKey (q ::qs) k=some q.2:=by simp [atKey,List.find?_cons,e']
    rw[uM e,b];exact h2
   ·have e':¬q.1=k:=fun z=>e (h1.trans z)
    have b:atKey (q ::qs) k=atKey qs k:=by simp [atKey,List.find?_cons,e']
    rw[uz e,b];exact ih
section
variable {P:Program} {w:World} {H:Hp} {h:Heap} {a:Addr}
theorem Eu{u:HO}(ok:mq P w H h)(e:Rd H a u):dJ P w H h a u:=e.ok ok
theorem Bo{kvs:List (Key × V)}(ok:mq P w H h)(e:Rd H a (.dK kvs)):kvs.length≤sizeLine∧(a==sysModules)=false∧∃vs,KV kvs vs∧h.DictOf (du P w) a vs:=
 show dJ P w H h a (.dK kvs) from Eu ok e
theorem HV{kvs:List (Key × V)}(ok:mq P w H h)(e:H a=some (.dK kvs)):kvs.length≤sizeLine∧(a==sysModules)=false∧∃vs,KV kvs vs∧h.DictOf (du P w) a vs:=Bo ok (.inl e)
theorem BM{ks:List Key}(ok:mq P w H h)(e:H a=some (.tup (ks.map kV))):(tupleKind (du P w)).is h ks a:=by
 obtain⟨_,its,r,o,h1,h2,n,h3⟩:=(show dJ P w H h a (.tup (ks.map kV)) from ok a _ e)
 exact⟨o,its.toArray,n,h1,h2,h3,by simpa using rO r⟩
theorem Ek{kvs:List (List Key × V)}(ok:mq P w H h)(e:Rd H a (.dT kvs)):kvs.length≤sizeLine∧(a==sysModules)=false∧
 ∃xs,KT H kvs xs∧h.DictOfH (tupleKind (du P w)) a xs:=by
 obtain⟨z,y,xs,r,o,es,ep,h1,h2,h3,h4,h5⟩:=(show dJ P w H h a (.dT kvs) from Eu ok e)
 refine⟨z,y,xs,r,o,es,ep,h1,h2,h3,h4,fun x hx=>?_,h5⟩
 have all:∀{l:List (List Key × V)} {m:List (List Key × Addr × Value)},KT H l m→∀x∈m,(tupleKind (du P w)).is h x.1 x.2.1:=by
  intro l m q
  induction q with
  | nil=>intro x hx;exact nomatch hx
  | @cons p q ps qs hq t ih=>
    intro x hx
    rcases List.mem_cons.mp hx with e | hx
    ·subst e
     exact BM ok (by rw[←hq.1];exact hq.2.1)
    ·exact ih x hx
 exact all r x hx
end
noncomputable def rn(H:Hp)(a:Addr)(y:V)(r:Option V):Prop:=
 (∃kvs k,Rd H a (.dK kvs)∧y=kV k∧r=k6 kvs k)∨∃kvs k b,Rd H a (.dT kvs)∧y= .ref b∧H b=some (.tup (k.map kV))∧r=k6 kvs k
noncomputable def Ih(H:Hp)(a:Addr)(y v:V)(H':Hp):Prop:=
 (∃kvs k,H a=some (.dK kvs)∧y=kV k∧kvs.length < sizeLine∧H'=upd H a (.dK (putK kvs k v)))∨
 ∃kvs k b,H a=some (.dT kvs)∧y= .ref b∧H b=some (.tup (k.map kV))∧kvs.length < sizeLine∧H'=upd H a (.dT (putK kvs k v))
theorem rn.k{H:Hp}{a:Addr}{kvs:List (Key × V)}{k:Key}(e:H a=some (.dK kvs)):rn H a (kV k) (k6 kvs k):= .inl ⟨kvs,k, .inl e,rfl,rfl⟩
section
variable {X:Cx} {pins:List (Addr × Obj)} {σ:St} {H:Hp} {s:Shared} {a:Addr} {y v:V} {u r:Value} {o:Option V} {A:Around} {E:Value→Shared→Prop}
theorem Inv.big(I:Inv X pins σ H s):sysModules < s.heap.objs.size:=by
 have h:mainGlobals < s.heap.objs.size:=(I.mod.glob.keeps I.bk).lt
 exact Nat.lt_trans (by decide) h
theorem Dw{h':Heap}{t':Nat}{ob:HO}(I:Inv X pins σ H s)(mu:G5 (H a))(hs:Heap.SameBut a s.heap h')(he:∃q,h'.get? a=some q)(new:dJ X.prog X.w (upd H a ob) h' a ob) :
 Inv X pins σ (upd H a ob) {s with heap:=h',toks:=t'}:=
 I.write (x:=a) (e:=a) mu (.inl rfl) (fun b q hb z=>(hs.2 b hb).trans z) he new
theorem GY{P:Program}{w:World}{H':Hp}{h':Heap}{kvs:List (Key × V)}{vs:List (Key × Value)}(z:kvs.length≤sizeLine)(hd:(a==sysModules)=false)(rel:KV kvs vs)(dd:h'.DictOf (du P w) a vs) :
 dJ P w H' h' a (.dK kvs):=⟨z,hd,vs,rel,dd⟩
end
section
variable {X:Cx} {pins:List (Addr × Obj)} {σ:St} {H:Hp} {s:Shared} {a:Addr} {kvs:List (Key × V)} {k:Key} {u:Value} {A:Around} {E:Value→Shared→Prop}
end
noncomputable def Lu(i:Expr):Prop:=∀ov iv,subscripted i false ov iv=operate [ov,iv] (getItem ov iv)
noncomputable def KA(td ty:TE):TE:=fun σ H Q=>td σ H fun x H1=>ty σ H1 fun y H2=>∃a v,x= .ref a∧rn H2 a y (some v)∧Q v H2
noncomputable def Lw(ty td:TE):TE:=fun σ H Q=>ty σ H fun y H1=>td σ H1 fun x H2=>∃a o,x= .ref a∧rn H2 a y o∧Q (.bl o.isSome) H2
noncomputable def II(ty td:TE):TE:=fun σ H Q=>ty σ H fun y H1=>td σ H1 fun x H2=>∃a o,x= .ref a∧rn H2 a y o∧Q (.bl (!o.isSome)) H2
noncomputable def Kg(td ty tv:TE):TS:=fun D σ H=>tv σ H fun v H1=>td σ H1 fun x H2=>ty σ H2 fun y H3=>∃a H4,x= .ref a∧Ih H3 a y v H4∧D.nx σ H4
noncomputable def Kr(td ty tv:TE)(rd:V→V→Hp→VK→Prop):TS:=fun D σ H=>td σ H fun x H1=>ty σ H1 fun y H2=>∃a v,x= .ref a∧rn H2 a y (some v)∧
 tv σ H2 fun y2 H3=>rd v y2 H3 fun z H4=>∃H5,Ih H4 a y z H5∧D.nx σ H5
noncomputable def Ki(td ty:TE):TS:=fun D σ H=>td σ H fun x H1=>ty σ H1 fun y H2=>∃a kvs k,x= .ref a∧H2 a=some (.dK kvs)∧y=kV k∧(k6 kvs k).isSome=true∧D.nx σ (upd H2 a (.dK (zX kvs k)))
section
variable {X:Cx} {o i e value:Expr} {pos pos' tpos:Pos} {td ty tv:TE}
end
theorem Bc{P:Program}{w:World}{H:Hp}(h:Heap)(hb:sysModules < h.objs.size):dJ P w H (h.push {cls:= .type "dict",data:= .dict #[]}) h.objs.size (.dK []):=
 ⟨Nat.zero_le _,beq_eq_false_iff_ne.mpr (Ne.symm (Nat.ne_of_lt hb)),[], .nil,Heap.DictOf.new h⟩
noncomputable def Ju:TE:=fun _ H Q=>∀p,H p=none→Q (.ref p) (upd H p (.dK []))
noncomputable def J4:TE:=fun _ H Q=>∀p,H p=none→Q (.ref p) (upd H p (.dT []))
section
variable {X:Cx} {pos:Pos}
end
noncomputable def qx:List (TE × TE)→St→Hp→(List (V × V)→Hp→Prop)→Prop
 | [],_,H,Q=>Q [] H
 | (tk,tv) ::r,σ,H,Q=>tk σ H fun x H1=>tv σ H1 fun y H2=>qx r σ H2 fun ps H3=>Q ((x,y) ::ps) H3
noncomputable abbrev VV:List (V × V)→List (Value × Value)→Prop:=Paired fun p q=>RelV p.1 q.1∧RelV p.2 q.2
noncomputable def G4(X:Cx)(pos:Pos)(keys:List (Option Expr))(values:List Expr)(trs:List (TE × TE)):Prop:=
 ∀(pins:List (Addr × Obj)) (s:Shared) (σ:St) (H:Hp) (Q:List (V × V)→Hp→Prop),Inv X pins σ H s→qx trs σ H Q→
  wpAny (model X.prog X.w) X.A (evalPairs (pairTrees keys values X.env pos)) (fun vs s'=>∃ps H',Inv X pins σ H' s'∧VV ps vs∧Q ps H') X.xe s
theorem yj{X:Cx}{pos:Pos}:G4 X pos [] [] []:=fun pins s σ H Q I h=>pairTrees_nil_walk ⟨[],H,I, .nil,h⟩
theorem mN{X:Cx}{pos:Pos}{k v:Expr}{ks:List (Option Expr)}{vs:List Expr}{tk tv:TE}{trs:List (TE × TE)}(hk:PE X k tk)(hv:PE X v tv)(hr:G4 X pos ks vs trs) :
 G4 X pos (some k ::ks) (v ::vs) ((tk,tv) ::trs):=fun pins s σ H Q I h=>
 pairTrees_cons_walk (dQ (hk pins s σ H _ I h) fun u s1 ⟨x,H1,I1,rx,q1⟩=>dQ (hv pins s1 σ H1 _ I1 q1) fun w2 s2 ⟨y,H2,I2,ry,q2⟩=>
  dQ (hr pins s2 σ H2 _ I2 q2) fun ws s3 ⟨ps,H3,I3,rel,q3⟩=>⟨(x,y) ::ps,H3,I3, .cons ⟨rx,ry⟩ rel,q3⟩)
noncomputable def jt(kvs more:List (Key × V)):List (Key × V):=more.foldl (fun acc kv=>putK acc kv.1 kv.2) kvs
theorem KV.merge:∀{more:List (Key × V)} {rs:List (Key × Value)} {kvs:List (Key × V)} {vs:List (Key × Value)},KV more rs→KV kvs vs→KV (jt kvs more) (merged vs rs):=by
 intro more rs kvs vs r
 unfold KV at r
 induction r generalizing kvs vs with
 | nil=>intro q;exact q
 | @cons p q ps qs h t ih=>
   intro r0
   have e:KV (putK kvs p.1 p.2) (stored vs q.1 q.2):=by
    have:=r0.put p.1 h.2
    rw[←h.1];exact this
   exact ih e
theorem lM:∀(more kvs:List (Key × V)),(jt kvs more).length≤kvs.length+more.length
 | [],kvs=>by show kvs.length≤kvs.length+0;omega
 | p ::r,kvs=>by
   have h1:=lM r (putK kvs p.1 p.2)
   have h2:=uu kvs p.1 p.2
   show(jt (putK kvs p.1 p.2) r).length≤_
   rw[List.length_cons];omega
theorem qz{P:Program}{w:World}:∀{kvs:List (Key × V)} {ws:List (Value × Value)},VV (kvs.map fun kv=>(kV kv.1,kv.2)) ws→∃rs,Carries (du P w) ws rs∧KV kvs rs
 | [],_,r=>by rw[List.map_nil] at r;cases r;exact⟨[],True.intro, .nil⟩
 | p ::kvs,_,r=>by
   rw[List.map_cons] at r
   cases r with
   | @cons a b as bs h t=>
     obtain⟨rs,c,q⟩:=qz (P:=P) (w:=w) t
     obtain⟨b1,b2⟩:=b
     exact⟨(p.1,b2) ::rs,⟨Ah h.1,rfl,c⟩, .cons ⟨rfl,h.2⟩ q⟩
noncomputable def Bd(trs:List (TE × TE)):TE:=fun σ H Q=>∀p,H p=none→qx trs σ (upd H p (.dK [])) fun ps H2=>H2 p=some (.dK [])∧∃kvs:List (Key × V),ps=kvs.map (fun kv=>(kV kv.1,kv.2))∧kvs.length≤15∧Q (.ref p) (upd H2 p (.dK (jt [] kvs)))
theorem DJ{X:Cx}{pos:Pos}{keys:List (Option Expr)}{values:List Expr}{trs:List (TE × TE)}(h:G4 X pos keys values trs)(hall:keys.all (·.isSome)=true)(hl:keys.length=values.length)(h0:keys≠[])
 (h15:keys.length≤15):PE X (.Dict keys values pos) (Bd trs):=by
 intro pins s σ H Q I q
 have hn:=I.hok.fresh (Nat.le_refl s.heap.objs.size)
 have I1:=I.laid (a:=s.heap.objs.size) (o:= .dK []) (h':=s.heap.push {cls:= .type "dict",data:= .dict #[]}) (t':=s.toks) (fun _ _ q=>Heap.get?_push_of_some _ q) (Nat.le_refl _) (Bc s.heap I.big)
 refine wpAny_Dict_walk (knd:=du X.prog X.w) hall hl h0 h15 (dQ (h pins _ σ _ _ I1 (q _ hn)) fun ws s2 ⟨ps,H2,I2,rel,e,kvs,ep,lk,q2⟩=>?_)
 subst ep
 obtain⟨rs,c,rk⟩:=qz (P:=X.prog) (w:=X.w) rel
 obtain⟨z,hd,vs0,r0,dd⟩:=HV I2.hok e
 cases r0
 refine⟨rs,c,dd,fun h' dd' hs=>⟨.ref s.heap.objs.size,_,?_,rfl,q2⟩⟩
 have hz:(jt [] kvs).length≤sizeLine:=by
  have h1:=lM kvs []
  rw[List.length_nil] at h1
  rw[sizeLine_eq];omega
 have he:∃q,h'.get? s.heap.objs.size=some q:=let⟨q,_,_,hq,_⟩:=dd';⟨q,hq⟩
 exact Dw I2 (by rw[e];exact True.intro) hs he (GY hz hd (rk.merge .nil) dd')
structure M1 (X:Cx) (o:Expr) (m:Str) (apos:Pos) (e:Expr) (cpos:Pos):Prop where
 base:attributeBase o m X.env (eval o X.env)=eval o X.env
 few:((backTo cpos (starEach [e] X.env)).all (fun x=>!x.1) && (backToKw cpos (keywordEach [] X.env)).all (fun x=>x.1.isSome)
  && decide (([e]:List Expr).length+([]:List Keyword).length+(if([]:List Keyword).isEmpty then 0 else 1) < 30))=true
 line:(apos.endLine==cpos.line)=true
 trees:backTo cpos (starEach [e] X.env)=[(false,eval e X.env)]
structure M2 (X:Cx) (o:Expr) (m:Str) (apos:Pos) (e f:Expr) (cpos:Pos):Prop where
 base:attributeBase o m X.env (eval o X.env)=eval o X.env
 few:((backTo cpos (starEach [e,f] X.env)).all (fun x=>!x.1) && (backToKw cpos (keywordEach [] X.env)).all (fun x=>x.1.isSome)
  && decide (([e,f]:List Expr).length+([]:List Keyword).length+(if([]:List Keyword).isEmpty then 0 else 1) < 30))=true
 line:(apos.endLine==cpos.line)=true
 trees:backTo cpos (starEach [e,f] X.env)=[(false,eval e X.env),(false,eval f X.env)]
noncomputable def Hx(H:Hp)(a:Addr):Prop:=(∃kvs,Rd H a (.dK kvs))∨∃kvs,Rd H a (.dT kvs)
theorem Gf{X:Cx}{pins:List (Addr × Obj)}{σ:St}{H:Hp}{s:Shared}{a:Addr}(I:Inv X pins σ H s)(d:Hx H a) :
 s.TypeIs (.ref a) "dict"∧(∀b,Value.ref a= .ref b→∃ob,s.heap.get? b=some ob∧ob.dict=none)∧(a==sysModules)=false:=by
 rcases d with⟨kvs,e⟩ | ⟨kvs,e⟩
 ·obtain⟨_,hd,vs,_,dd⟩:=Bo I.hok e
  refine⟨dd.typeIs,fun b q=>?_,hd⟩
  cases q
  obtain⟨ob,_,_,h1,h2,_⟩:=dd
  exact⟨ob,h1,h2.2.1⟩
 ·obtain⟨_,hd,xs,_,dd⟩:=Ek I.hok e
  refine⟨dd.typeIs,fun b q=>?_,hd⟩
  cases q
  obtain⟨ob,_,_,h1,h2,_⟩:=dd
  exact⟨ob,h1,h2.2.1⟩
section
variable {X:Cx} {pins:List (Addr × Obj)} {σ:St} {H:Hp} {s:Shared} {a:Addr} {y d:V} {u r:Value} {o:Option V} {A:Around} {E:Value→Shared→Prop}
theorem GC{Q:Value→Shared→Prop}(hu:A.units+1 < cLine)(I:Inv X pins σ H s)(g:rn H a y o)(ry:RelV y u)(rd:RelV d r)(h:∀w' s',Inv X pins σ H s'→RelV (o.getD d) w'→Q w' s') :
 wpAny (model X.prog X.w) A (call (.builtin "dict.get") [.ref a,u,r]) Q E s:=by
 rcases g with⟨kvs,k,e,ey,l⟩ | ⟨kvs,k,b,e,ey,eb,l⟩
 ·subst ey
  obtain⟨z,hd,vs,rel,dd⟩:=Bo I.hok e
  refine call_meetsIn PySem.F.slot_dict_get dd.typeIs PySem.F.entry_dict_get (PySem.F.args_dict_get_3 _ _ _) (meets_dict_get_default (du X.prog X.w) a (Ah ry) hd r) ⟨_,dd.mapOf,h _ _ (I.tok _) ?_⟩
  rw[l]
  exact(rel.val k).getD rd
 ·subst ey
  cases(show u=Value.ref b from ry)
  obtain⟨z,hd,xs,rel,dd⟩:=Ek I.hok e
  refine call_meetsIn PySem.F.slot_dict_get dd.typeIs PySem.F.entry_dict_get (PySem.F.args_dict_get_3 _ _ _) (meetsH_dict_get_default (tupleKind (du X.prog X.w)) a b hd r) ⟨tupleKind_room_in1 hu,k,xs,BM I.hok eb,dd,h _ _ (I.tok _) ?_⟩
  rw[l]
  exact(rel.val k).getD rd
end
noncomputable def JC(td ty:TE):TE:=fun σ H Q=>td σ H fun x H1=>∃a,x= .ref a∧Hx H1 a∧ty σ H1 fun y H2=>∃o,rn H2 a y o∧Q (o.getD .cI) H2
noncomputable def GX(td ty tx:TE):TE:=fun σ H Q=>td σ H fun x H1=>∃a,x= .ref a∧Hx H1 a∧ty σ H1 fun y H2=>tx σ H2 fun z H3=>∃o,rn H3 a y o∧Q (o.getD z) H3
noncomputable def J3(td ty:TE):TE:=fun σ H Q=>td σ H fun x H1=>∃a,x= .ref a∧Hx H1 a∧ty σ H1 fun y H2=>∃kvs k v,H2 a=some (.dK kvs)∧y=kV k∧k6 kvs k=some v∧Q v (upd H2 a (.dK (zX kvs k)))
noncomputable def Jl(td ty tx:TE):TE:=fun σ H Q=>td σ H fun x H1=>∃a,x= .ref a∧Hx H1 a∧ty σ H1 fun y H2=>tx σ H2 fun z H3=>∃kvs k,H3 a=some (.dK kvs)∧y=kV k∧
 (∀v,k6 kvs k=some v→Q v (upd H3 a (.dK (zX kvs k))))∧(k6 kvs k=none→Q z H3)
section
variable {X:Cx} {o e f:Expr} {apos cpos:Pos} {td ty tx:TE}
theorem Cc(hu:X.A.units+1 < cLine)(ho:PE X o td)(he:PE X e ty)(hf:PE X f tx)(m:M2 X o "get" apos e f cpos):PE X (.Call (.Attribute o "get" apos) [e,f] [] cpos) (GX td ty tx):=by
 intro pins s σ H Q I h
 refine wpAny_Call_method m.base m.few m.line PySem.F.plainAttrs_dict PySem.F.slot_dict_get PySem.F.type_dict_get (dQ (ho pins s σ H _ I h) fun u s1 ⟨x,H1,I1,rx,a,ex,d,q1⟩=>?_)
 subst ex
 obtain rfl:u=Value.ref a:=rx
 obtain⟨t1,t2,_⟩:=Gf I1 d
 refine⟨t1,t2,?_⟩
 rw[m.trees]
 refine Calls.callWith_builtin rfl (Calls.evalArgs_plain (Calls.spliced_cons (dQ (he pins s1 σ H1 _ I1 q1) fun iv s2 ⟨y,H2,I2,ry,q2⟩=>
  Calls.spliced_cons (dQ (hf pins s2 σ H2 _ I2 q2) fun fv s3 ⟨z,H3,I3,rz,ov,g,q3⟩=>Calls.spliced_nil ?_))))
 exact GC hu I3 g ry rz fun w' s4 I4 rw'=>⟨_,H3,I4,rw',q3⟩
end
section
variable {X:Cx} {pins:List (Addr × Obj)} {σ:St} {H:Hp} {s:Shared} {a:Addr} {kvs:List (Key × V)} {A:Around} {E:Value→Shared→Prop}
end
section
variable {X:Cx} {pins:List (Addr × Obj)} {σ:St} {H:Hp} {s:Shared} {a:Addr} {y:V} {u:Value} {A:Around} {E:Value→Shared→Prop}
end
end L2
namespace HT
open PySem PyProof.Rows
noncomputable def lexLt:List Int→List Int→Bool
 | [],[]=>false
 | [],_ ::_=>true
 | _ ::_,[]=>false
 | x ::xs,y ::ys=>if x=y then lexLt xs ys else decide (x < y)
section
open PySem.SeqAt
open PySem.AutoSeq1 (wpAny_loadPart')
open PySem.MeetsSeq PySem.MeetsSeq2 PySem.MeetsSeq3
end
section
variable {prog:Program} {w:World} {A:Around} {E:Value→Shared→Prop} {s:Shared}
theorem CY{t b:Addr}{vs ws:List Value}{Q:Value→Shared→Prop}(ht:IsTup s.heap t vs.toArray)(hb:IsTup s.heap b ws.toArray)(hv:vs≠[])
 (h1:ws=[]→Q (.ref t) s) (h2:ws≠[]→Q (.ref s.heap.objs.size) {s with heap:=s.heap.push {cls:= .type "tuple",data:= .seq (vs++ws).toArray}})
 (hsz:vs.length+ws.length≤sizeLine):wpAny (model prog w) A (binaryOp .Add (.ref t) (.ref b)) Q E s:=by
 obtain⟨⟨cls,dd,data,sl⟩,ho,hc,n,hd⟩:=id ht
 obtain⟨⟨cls2,dd2,data2,sl2⟩,ho2,hc2,n2,hd2⟩:=id hb
 simp only at hc hd hc2 hd2
 subst hc hd hc2 hd2
 have e:vs.toArray++ws.toArray=(vs++ws).toArray:=by simp
 by_cases hw:ws=[]
 ·exact concat_meets ⟨_,ho,rfl⟩ ⟨_,ho2,rfl⟩ noFill_tuple_add seq_tuple_add PySem.F.slot_tuple_add PySem.F.entry_tuple_add (PySem.F.args_tuple_add_2 _ _)
   (tuple_addW1 t b vs.toArray ws.toArray n n2 dd dd2 sl sl2 (by simpa using hv) (by simp [hw])) ⟨ho,ho2,h1 hw⟩
 ·refine concat_meets ⟨_,ho,rfl⟩ ⟨_,ho2,rfl⟩ noFill_tuple_add seq_tuple_add PySem.F.slot_tuple_add PySem.F.entry_tuple_add (PySem.F.args_tuple_add_2 _ _)
   (tuple_addW2 t b vs.toArray ws.toArray n n2 dd dd2 sl sl2 (by simpa using hv) (by simpa using hw) (by rw[List.size_toArray,List.size_toArray];exact hsz)) ⟨ho,ho2,?_⟩
  rw[e]
  exact h2 hw
noncomputable def qW(n d:Nat):Option Int→Nat
 | none=>d
 | some v=>if v < 0 then(v+(n:Int)).toNat else min v.toNat n
theorem vx(n d:Nat):qW n d none=d:=rfl
theorem pG(n d k:Nat):qW n d (some (k:Int))=min k n:=by
 show(if(k:Int) < 0 then((k:Int)+(n:Int)).toNat else min (k:Int).toNat n)=min k n
 rw[if_neg (by omega),Int.toNat_natCast]
end
end HT
namespace L2
open PySem PySem.Spec PyProof.Rows
noncomputable abbrev TO:=St→Hp→(Option Int→Hp→Prop)→Prop
noncomputable def PO(X:Cx)(e:Option Expr)(t:TO):Prop:=
 ∀(pins:List (Addr × Obj)) (s:Shared) (σ:St) (H:Hp) (Q:Option Int→Hp→Prop),Inv X pins σ H s→t σ H Q→
  wpAny (model X.prog X.w) X.A (evalPart e X.env) (fun u s'=>∃o H',Inv X pins σ H' s'∧IsPart u o∧Q o H') X.xe s
noncomputable def Ed:TO:=fun _ H Q=>Q none H
noncomputable def Ii(t:TE):TO:=fun σ H Q=>t σ H fun x H1=>∃i,x= .int i∧Q (some i) H1
section
variable {X:Cx} {e:Expr} {te:TE} {lo hi:Option Expr} {tl th:TO} {pos p2:Pos}
theorem CQ:PO X none Ed:=by
 intro pins s σ H Q I h
 rw[evalPart_none]
 exact wpAny_pure ⟨none,H,I, .none,h⟩
theorem Dp(h:PE X e te):PO X (some e) (Ii te):=by
 intro pins s σ H Q I hw
 rw[evalPart_some]
 refine dQ (h pins s σ H _ I hw) fun u s1 ⟨x,H1,I1,r1,q1⟩=>?_
 obtain⟨i,rfl,q⟩:=q1
 obtain⟨t,rfl⟩:=r1
 exact⟨some i,H1,I1, .int i t,q⟩
noncomputable def GB(X:Cx)(r:V→Option Int→Option Int→Hp→VK→Prop):Prop:=
 ∀(pins:List (Addr × Obj)) (s:Shared) (σ:St) (H:Hp) (x:V) (v vl vu:Value) (lo hi:Option Int) (sl:Addr) (Q:VK),Inv X pins σ H s→RelV x v→s.heap.IsSliceOf sl vl vu .none→IsPart vl lo→IsPart vu hi→r x lo hi H Q→
  ∃T id,typeLookup (.type T) "__getitem__"=pure (some (.builtin id))∧s.TypeIs v T∧wpAny (model X.prog X.w) X.A (getItem v (.ref sl)) (EP X pins σ Q) X.xe s
theorem GB.or{r r':V→Option Int→Option Int→Hp→VK→Prop}(h:GB X r)(h':GB X r'):GB X (fun x lo hi H Q=>r x lo hi H Q∨r' x lo hi H Q):=by
 intro pins s σ H x v vl vu lo hi sl Q I rx hs pl pu q
 rcases q with q | q
 ·exact h pins s σ H x v vl vu lo hi sl Q I rx hs pl pu q
 ·exact h' pins s σ H x v vl vu lo hi sl Q I rx hs pl pu q
noncomputable def LA(r:V→Option Int→Option Int→Hp→VK→Prop)(te:TE)(tl th:TO):TE:=fun σ H Q=>te σ H fun x H1=>tl σ H1 fun l H2=>th σ H2 fun u H3=>r x l u H3 Q
theorem zP{r:V→Option Int→Option Int→Hp→VK→Prop}(hr:GB X r)(he:PE X e te)(hl:PO X lo tl)(hu:PO X hi th):PE X (.Subscript e (.Slice lo hi none p2) pos) (LA r te tl th):=by
 intro pins s σ H Q I h
 refine Subscript_ (dQ (he pins s σ H _ I h) fun v s1 ⟨x,H1,I1,r1,q1⟩=>?_)
 refine wpAny_Slice (dQ (hl pins s1 σ H1 _ I1 q1) fun vl s2 ⟨l,H2,I2,pl,q2⟩=>dQ (hu pins s2 σ H2 _ I2 q2) fun vu s3 ⟨u,H3,I3,pu,q3⟩=>?_)
 rw[evalPart_none]
 refine wpAny_pure ?_
 have I4:Inv X pins σ H3 {s3 with heap:=s3.heap.push {cls:= .type "slice",data:= .fields #[vl,vu, .none]}}:=I3.kept (t':=s3.toks) fun b ob q=>Heap.get?_push_of_some _ q
 obtain⟨T,id,hT,ht,hg⟩:=hr pins {s3 with heap:=s3.heap.push {cls:= .type "slice",data:= .fields #[vl,vu, .none]}} σ H3 x v vl vu l u s3.heap.objs.size Q I4 r1 (Heap.IsSliceOf.new ..) pl pu q3
 show wpAny (model X.prog X.w) X.A (subscriptTail e (.Slice lo hi none p2) v (.ref s3.heap.objs.size)) (EP X pins σ Q) X.xe {s3 with heap:=s3.heap.push {cls:= .type "slice",data:= .fields #[vl,vu, .none]}}
 exact tail_any (ops:=[.ref s3.heap.objs.size,v]) ht hT hg (by with_unfolding_all rfl)
noncomputable def wa(xs:List V)(lo hi:Option Int):List V:=(xs.drop (HT.qW xs.length 0 lo)).take (HT.qW xs.length xs.length hi - HT.qW xs.length 0 lo)
theorem uY(xs:List V)(lo hi:Option Int):(wa xs lo hi).length≤xs.length:=by
 unfold wa
 rw[List.length_take,List.length_drop]
 omega
noncomputable def Ld(K:PySem.W.Frag):V→Option Int→Option Int→Hp→VK→Prop:=fun x lo hi H Q=>∃a xs,x= .ref a∧oJ K H a xs∧
 ¬(HT.qW xs.length 0 lo=0∧HT.qW xs.length xs.length hi=xs.length)∧∀p,H p=none→Q (.ref p) (upd H p (.tup (wa xs lo hi)))
noncomputable def LD(K:PySem.W.Frag):R2:=fun x y H Q=>∃a b ns ms,x= .ref a∧y= .ref b∧oJ K H a (ns.map V.int)∧oJ K H b (ms.map V.int)∧Q (.bl (HT.lexLt ns ms)) H
noncomputable def Ky(K:PySem.W.Frag):R2:=fun x y H Q=>∃a b xs ys,x= .ref a∧y= .ref b∧oJ K H a xs∧oJ K H b ys∧xs≠[]∧xs.length+ys.length≤sizeLine∧
 (ys=[]→Q (.ref a) H)∧(ys≠[]→∀p,H p=none→Q (.ref p) (upd H p (.tup (xs++ys))))
end
end L2
namespace L2
open PySem PySem.Spec PyProof.Rows
noncomputable def qp(n:Nat)(i:Int):Option Nat:=if 0≤i then(if i < n then some i.toNat else none) else if -(n:Int)≤i then some (i+n).toNat else none
noncomputable def oe{α:Type}(xs:List α)(i:Int):Option α:=(qp xs.length i).bind fun j=>xs[j]?
theorem xo{n:Nat}{i:Int}{j:Nat}(h:qp n i=some j):seqIndex? i n=some j∧j < n∧ -(n:Int)≤i∧i < n:=by
 unfold qp at h
 by_cases h0:0≤i
 ·rw[if_pos h0] at h
  by_cases h1:i < n
  ·rw[if_pos h1] at h
   have e:i.toNat=j:=Option.some.inj h
   exact⟨by rw[seqIndex_of h0 h1,e],by omega,by omega,h1⟩
  ·rw[if_neg h1] at h;cases h
 ·rw[if_neg h0] at h
  by_cases h1: -(n:Int)≤i
  ·rw[if_pos h1] at h
   have e:(i+n).toNat=j:=Option.some.inj h
   exact⟨by rw[seqIndex_neg (by omega) h1,e],by omega,h1,by omega⟩
  ·rw[if_neg h1] at h;cases h
theorem sN{α:Type}{xs:List α}{i:Int}{v:α}(h:oe xs i=some v):∃j,seqIndex? i xs.length=some j∧xs[j]? =some v∧j < xs.length∧ -(xs.length:Int)≤i∧i < xs.length:=by
 unfold oe at h
 cases e:qp xs.length i with
 | none=>rw [e] at h;cases h
 | some j=>
   rw[e] at h
   obtain⟨h1,h2,h3,h4⟩:=xo e
   exact⟨j,h1,h,h2,h3,h4⟩
noncomputable def pE(b:Expr):Prop:=∀o i,subscripted b false o i=operate [o,i] (getItem o i)
noncomputable def CO(X:Cx)(r:R2):Prop:=
 ∀(value slice:Expr) (pins:List (Addr × Obj)) (s:Shared) (σ:St) (H:Hp) (x y:V) (v u:Value) (Q:VK),Inv X pins σ H s→RelV x v→RelV y u→r x y H Q→
  subscripted slice false v u=operate [v,u] (getItem v u)→wpAny (model X.prog X.w) X.A (subscriptTail value slice v u) (EP X pins σ Q) X.xe s
noncomputable def KG(X:Cx)(id:String)(r:V→List V→Hp→VK→Prop):Prop:=
 ∀(pins:List (Addr × Obj)) (s:Shared) (σ:St) (H:Hp) (x:V) (xs:List V) (v:Value) (us:List Value) (Q:VK),Inv X pins σ H s→RelV x v→Vals xs us→r x xs H Q→
  wpAny (model X.prog X.w) X.A (call (.builtin id) (v ::us)) (EP X pins σ Q) X.xe s
section
variable {X:Cx} {a b:Expr} {ta tb:TE} {pos:Pos}
theorem CO.or{r r':R2}(h:CO X r)(h':CO X r'):CO X (fun x y H Q=>r x y H Q∨r' x y H Q):=by
 intro value slice pins s σ H x y v u Q I rx ry q hs
 rcases q with q | q
 ·exact h value slice pins s σ H x y v u Q I rx ry q hs
 ·exact h' value slice pins s σ H x y v u Q I rx ry q hs
theorem Ej{r:R2}(hr:CO X r)(ha:PE X a ta)(hb:PE X b tb)(hs:pE b):PE X (.Subscript a b pos) (G3 r ta tb):=by
 intro pins s σ H Q I h
 exact Subscript_ (EZ ha hb I h fun v u s2 x y H2 I2 rx ry q=>hr a b pins s2 σ H2 x y v u Q I2 rx ry q (hs _ _))
noncomputable def IA(K:PySem.W.Frag):R2:=fun x y H Q=>∃p xs i v,x= .ref p∧y= .int i∧mw K H p xs∧oe xs i=some v∧Q v H
noncomputable def Hr(K:PySem.W.Frag):R2:=fun x y H Q=>∃p xs i v,x= .ref p∧y= .int i∧oJ K H p xs∧oe xs i=some v∧Q v H
noncomputable def Hb:R2:=fun x y H Q=>∃z i c,x= .str z∧y= .int i∧z.length≤sizeLine∧oe z.cps.toList i=some c∧Q (.str ⟨#[c]⟩) H
theorem Dk:CO X (IA X.K):=by
 intro value slice pins s σ H x y v u Q I rx ry h hs
 obtain⟨p,xs,i,z,rfl,rfl,hq,he,q⟩:=h
 cases rx
 obtain⟨t,rfl⟩:=ry
 obtain⟨its,r,pl,hz⟩:=I.list hq
 obtain⟨j,h1,h2,h3,h4,h5⟩:=sN he
 obtain⟨w,ew,rw'⟩:=r.get h2
 have hl:=r.length
 have hn:=nG
 have fin:EP X pins σ Q w s:=⟨z,H,I,rw',q⟩
 by_cases h0:0≤i
 ·have hj:i.toNat=j:=by
   rw[seqIndex_of h0 h5] at h1
   exact Option.some.inj h1
  exact item_listR pl.isList h0 (by omega) (by rw[hj];simpa using ew) fin hs
 ·have hj:(i+(its.toArray.size:Int)).toNat=j:=by
   rw[seqIndex_neg (by omega) h4] at h1
   rw[List.size_toArray,←hl]
   exact Option.some.inj h1
  exact subscriptTail_builtinR (x:=w) pl.isList.typeIs slot_list_getitem.lookup
   (wpAny_getItem_list_neg (Q:=fun r s'=>r=w∧EP X pins σ Q r s') pl.isList (by omega) (by rw[List.size_toArray] <;> omega) (by omega) (by rw[hj];simpa using ew) ⟨rfl,fin⟩) hs
theorem Gg:CO X (Hr X.K):=by
 intro value slice pins s σ H x y v u Q I rx ry h hs
 obtain⟨p,xs,i,z,rfl,rfl,hq,he,q⟩:=h
 cases rx
 obtain⟨t,rfl⟩:=ry
 obtain⟨its,r,pl,hz⟩:=I.tuple hq
 obtain⟨j,h1,h2,h3,h4,h5⟩:=sN he
 obtain⟨w,ew,rw'⟩:=r.get h2
 have hl:=r.length
 have hn:=nG
 have fin:EP X pins σ Q w s:=⟨z,H,I,rw',q⟩
 exact subscriptTail_builtinR (x:=w) pl.typeIs slot_tuple_getitem.lookup
  (getItem_tuple (j:=j) (Q:=fun r s'=>r=w∧EP X pins σ Q r s') pl (by omega) (by omega) (by rw[List.size_toArray,←hl];exact h1) (by simpa using ew) ⟨rfl,fin⟩) hs
theorem F5:CO X Hb:=by
 intro value slice pins s σ H x y v u Q I rx ry h hs
 obtain⟨z,i,c,rfl,rfl,hz,he,q⟩:=h
 obtain⟨t,rfl⟩:=rx
 obtain⟨t',rfl⟩:=ry
 obtain⟨j,h1,h2,h3,h4,h5⟩:=sN he
 have hl:z.cps.toList.length=z.length:=by simp [Str.length]
 rw[hl] at h1 h4 h5
 have hn:=nG
 exact tail_any (typeIs_str s z t) slot_str_getitem.lookup (getItem_str (c:=c) (by
  have e1:decide (i < -(2 ^ 63:Int))=false:=decide_eq_false (by omega)
  have e2:decide (i≥2 ^ 63)=false:=decide_eq_false (by omega)
  rw[e1,e2,Bool.or_false]) (by rw[h1];simpa using h2) ⟨.str ⟨#[c]⟩,H,I.tok _,⟨_,rfl⟩,q⟩) hs
noncomputable def JF(K:PySem.W.Frag):R2:=fun x y H Q=>IA K x y H Q∨Hr K x y H Q∨Hb x y H Q
theorem AY:CO X (JF X.K):=Dk.or (Gg.or F5)
theorem vP(its:List Value)(n j:Nat)(u:Value):Obj.mapSeq (·.setIfInBounds j u) {cls:= .type "list",data:= .seq its.toArray n}={cls:= .type "list",data:= .seq (its.set j u).toArray n}:=by
 simp [Obj.mapSeq]
theorem Inv.lst{pins:List (Addr × Obj)}{σ:St}{H:Hp}{s:Shared}{p:Addr}{xs:List V}(I:Inv X pins σ H s)(h:H p=some (.lst xs)) :
 ∃(its:List Value) (n:Nat),Vals xs its∧s.heap.get? p=some {cls:= .type "list",data:= .seq its.toArray n}∧xs.length≤sizeLine:=by
 obtain⟨z,its,n,r,e⟩:=I.hok p _ h
 exact⟨its,n,r,e,z⟩
theorem Inv.GR{pins:List (Addr × Obj)}{σ:St}{H:Hp}{s:Shared}{p:Addr}{xs ys:List V}{its its':List Value}{n n':Nat}{f:Obj→Obj}(I:Inv X pins σ H s)(h:H p=some (.lst xs))
 (ho:s.heap.get? p=some {cls:= .type "list",data:= .seq its.toArray n}) (hf:f {cls:= .type "list",data:= .seq its.toArray n}={cls:= .type "list",data:= .seq its'.toArray n'}) (r:Vals ys its') (hz:ys.length≤sizeLine) (t:Nat) :
 Inv X pins σ (upd H p (.lst ys)) {s with heap:=s.heap.update p f,toks:=t}:=by
 have e:(s.heap.update p f).get? p=some {cls:= .type "list",data:= .seq its'.toArray n'}:=by
  rw[Heap.get?_update_self f ho (by rw[hf] <;> rfl),hf]
 refine I.write (x:=p) (e:=p) (by rw[h];trivial) (.inl rfl) (fun b u hb q=>(Heap.get?_update_other _ _ (Ne.symm hb)).trans q) ⟨_,e⟩ ?_
 exact⟨hz,its',n',r,e⟩
noncomputable def EB:V→V→V→Hp→(Hp→Prop)→Prop:=fun o i v H Q=>∃p xs k j,o= .ref p∧i= .int k∧H p=some (.lst xs)∧qp xs.length k=some j∧Q (upd H p (.lst (xs.set j v)))
theorem set_list:Ie X EB:=by
 intro pins s σ H o i v ov iv u Q I ro ri rv h
 obtain⟨p,xs,k,j,rfl,rfl,hp,hj,q⟩:=h
 cases ro
 obtain⟨t,rfl⟩:=ri
 obtain⟨its,n,r,ho,hz⟩:=I.lst hp
 obtain⟨h1,h2,h3,h4⟩:=xo hj
 have hl:=r.length
 have hn:=nG
 have I':Inv X pins σ (upd H p (.lst (xs.set j v))) {s with heap:=s.heap.update p (Obj.mapSeq (·.setIfInBounds j u))}:=
  I.GR hp ho (vP its n j u) (r.set rv j) (by rw[List.length_set];exact hz) s.toks
 by_cases h0:0≤k
 ·have hk:k.toNat=j:=by
   rw[seqIndex_of h0 h4] at h1
   exact Option.some.inj h1
  exact PySem.W.ki_setAt ho h0 (by omega) (by rw[List.size_toArray,←hl];exact h4) (by rw[hk];exact⟨_,I',q⟩)
 ·have hk:(k+(its.toArray.size:Int)).toNat=j:=by
   rw[seqIndex_neg (by omega) h3] at h1
   rw[List.size_toArray,←hl]
   exact Option.some.inj h1
  exact PySem.W.ki_setBack ho (by omega) (by rw[List.size_toArray,←hl];exact h3) (by omega) (by rw[hk];exact⟨_,I',q⟩)
theorem ua(lo hi:Option Int)(n:Nat):(sliceBounds lo hi none n).1=((HT.qW n 0 lo:Nat):Int)∧(sliceBounds lo hi none n).2.1=((HT.qW n n hi:Nat):Int)∧(sliceBounds lo hi none n).2.2=1:=by
 refine⟨?_,?_,rfl⟩
 ·cases lo with
  | none=>simp [sliceBounds,HT.qW]
  | some i=>
    simp only[sliceBounds,HT.qW,Option.getD_none,show(1:Int) > 0 by decide,if_true]
    by_cases h:i < 0
    ·simp only[h,if_true] <;> omega
    ·simp only[h,if_false] <;> omega
 ·cases hi with
  | none=>simp [sliceBounds,HT.qW]
  | some i=>
    simp only[sliceBounds,HT.qW,Option.getD_none,show(1:Int) > 0 by decide,if_true]
    by_cases h:i < 0
    ·simp only[h,if_true] <;> omega
    ·simp only[h,if_false] <;> omega
theorem rg(its:List Value)(lo hi:Option Int):slicePick its.toArray lo hi none=((its.drop (HT.qW its.length 0 lo)).take (HT.qW its.length its.length hi - HT.qW its.length 0 lo)).toArray:=by
 obtain⟨h1,h2,h3⟩:=ua lo hi its.toArray.size
 unfold slicePick
 rw[h1,h2,h3]
 simp only[sliceRange_one,pick_run,List.size_toArray] <;> rfl
noncomputable def JR(K:PySem.W.Frag):V→Option Int→Option Int→Hp→VK→Prop:=fun x lo hi H Q=>∃a xs,x= .ref a∧mw K H a xs∧∀p,H p=none→Q (.ref p) (upd H p (.lst (wa xs lo hi)))
theorem C1:GB X (JR X.K):=by
 intro pins s σ H x v vl vu lo hi sl Q I rx hs pl pu h
 obtain⟨a,xs,rfl,hx,q⟩:=h
 cases rx
 obtain⟨its,r,ht,hz⟩:=I.list hx
 have hlen:=r.length
 refine⟨"list",_,slot_list_getitem.lookup,ht.isList.typeIs,?_⟩
 refine wpAny_getItem_list_slice ht.isList hs pl pu .none (by simp) ?_ (by rw[List.size_toArray] <;> omega)
 rw[rg,←hlen]
 refine⟨.ref s.heap.objs.size,_,I.laid (t':=s.toks) (o:= .lst (wa xs lo hi)) (fun b ob q=>Heap.get?_push_of_some _ q) (Nat.le_refl _) ?_,rfl,q _ (I.hok.fresh (Nat.le_refl _))⟩
 exact⟨Nat.le_trans (uY xs lo hi) hz,_,0,(r.drop (HT.qW xs.length 0 lo)).take (HT.qW xs.length xs.length hi - HT.qW xs.length 0 lo),Heap.get?_push_size _ rfl⟩
noncomputable def jW:V→Bool
 | .cI=>true
 | .bl _=>true
 | .int _=>true
 | .str _=>true
 | _=>false
noncomputable def Em:V→V→Bool
 | .cI, .cI=>true
 | .bl a, .bl b=>a==b
 | .bl a, .int b=>(if a then 1 else 0)==b
 | .int a, .bl b=>a==(if b then 1 else 0)
 | .int a, .int b=>a==b
 | .str a, .str b=>a==b
 | _,_=>false
theorem F4{A:Around}{s:Shared}{y x:V}{u v:Value}(ry:RelV y u)(rx:RelV x v)(fy:jW y=true)(fx:jW x=true):SeqAt.EqAt A s u v (Em y x):=by
 cases y with
 | cI=>
   cases ry
   cases x with
   | cI=>cases rx;exact SeqAt.EqAt.same _
   | bl b=>cases rx;exact SeqAt.EqAt.none_bool b
   | int b=>obtain⟨t,rfl⟩:=rx;exact SeqAt.EqAt.none_int b t
   | str b=>obtain⟨t,rfl⟩:=rx;exact SeqAt.EqAt.none_str b t
   | _=>exact absurd (show false=true from fx) Bool.false_ne_true
 | bl a=>
   cases ry
   cases x with
   | cI=>cases rx;exact SeqAt.EqAt.bool_none a
   | bl b=>cases rx;exact SeqAt.EqAt.bool_bool a b
   | int b=>obtain⟨t,rfl⟩:=rx;exact SeqAt.EqAt.bool_int a b t
   | str b=>obtain⟨t,rfl⟩:=rx;exact SeqAt.EqAt.bool_str a b t
   | _=>exact absurd (show false=true from fx) Bool.false_ne_true
 | int a=>
   obtain⟨t',rfl⟩:=ry
   cases x with
   | cI=>cases rx;exact SeqAt.EqAt.int_none a t'
   | bl b=>cases rx;exact SeqAt.EqAt.int_bool a t' b
   | int b=>obtain⟨t,rfl⟩:=rx;exact SeqAt.EqAt.int_int a t' b t
   | str b=>obtain⟨t,rfl⟩:=rx;exact SeqAt.EqAt.int_str a t' b t
   | _=>exact absurd (show false=true from fx) Bool.false_ne_true
 | str a=>
   obtain⟨t',rfl⟩:=ry
   cases x with
   | cI=>cases rx;exact SeqAt.EqAt.str_none a t'
   | bl b=>cases rx;exact SeqAt.EqAt.str_bool a t' b
   | int b=>obtain⟨t,rfl⟩:=rx;exact SeqAt.EqAt.str_int a t' b t
   | str b=>obtain⟨t,rfl⟩:=rx;exact SeqAt.EqAt.str_str a t' b t
   | _=>exact absurd (show false=true from fx) Bool.false_ne_true
 | _=>exact absurd (show false=true from fy) Bool.false_ne_true
noncomputable def Du(x:V)(u:Value):Bool:=match u with
 | .none=>Em .cI x
 | .bool b=>Em (.bl b) x
 | .int i _=>Em (.int i) x
 | .str z _=>Em (.str z) x
 | _=>false
theorem Br{x y:V}{u:Value}(r:RelV y u)(f:jW y=true):Du x u=Em y x:=by
 cases y with
 | cI=>cases r;rfl
 | bl b=>cases r;rfl
 | int i=>obtain⟨t,rfl⟩:=r;rfl
 | str z=>obtain⟨t,rfl⟩:=r;rfl
 | _=>exact absurd (show false=true from f) Bool.false_ne_true
theorem tH{x:V}:∀{xs:List V} {us:List Value},Vals xs us→xs.all jW=true→us.any (Du x)=xs.any fun y=>Em y x
 | _,_, .nil,_=>rfl
 | y ::xs,u ::us, .cons r t,f=>by
   rw[List.all_cons,Bool.and_eq_true] at f
   rw[List.any_cons,List.any_cons,Br r f.1,tH t f.2]
theorem qc{A:Around}{s:Shared}{x:V}{v:Value}(rx:RelV x v)(fx:jW x=true):∀{xs:List V} {us:List Value},Vals xs us→xs.all jW=true→∀u∈us,SeqAt.EqAt A s u v (Du x u)
 | _,_, .nil,_=>fun u hu=>by cases hu
 | y ::xs,u ::us, .cons r t,f=>fun u' hu=>by
   rw[List.all_cons,Bool.and_eq_true] at f
   rcases List.mem_cons.mp hu with rfl | hu
   ·rw[Br r f.1];exact F4 r rx f.1 fx
   ·exact qc rx fx t f.2 u' hu
noncomputable def A0(x:V)(xs:List V):Bool:=xs.any fun y=>Em y x
noncomputable def Kc(K:PySem.W.Frag)(neg:Bool):R2:=fun x y H Q=>∃p xs,y= .ref p∧(mw K H p xs∨oJ K H p xs)∧jW x=true∧xs.all jW=true∧Q (.bl (if neg then !A0 x xs else A0 x xs)) H
theorem rK:kM X (compareOp .In) (Kc X.K false):=by
 intro pins s σ H x y v u Q I rx ry h
 obtain⟨p,xs,rfl,hq,fx,fs,q⟩:=h
 cases ry
 rcases hq with hq | hq
 ·obtain⟨its,r,pl,hz⟩:=I.list hq
  refine SeqAt.in_listAt (Du x) pl.isList (fun w hw=>qc rx fx r fs w (by simpa using hw)) ⟨.bl _,H,I,rfl,?_⟩
  rw[show its.toArray.any (Du x)=its.any (Du x) by simp,tH r fs]
  exact q
 ·obtain⟨its,r,pl,hz⟩:=I.tuple hq
  refine SeqAt.in_tupleAt (Du x) pl (fun w hw=>qc rx fx r fs w (by simpa using hw)) ⟨.bl _,H,I,rfl,?_⟩
  rw[show its.toArray.any (Du x)=its.any (Du x) by simp,tH r fs]
  exact q
theorem sQ:jU X (.type "list") (fun xs H Q=>∃p ys,xs=[.ref p]∧(mw X.K H p ys∨oJ X.K H p ys)∧∀l,H l=none→Q (.ref l) (upd H l (.lst ys))):=by
 intro pins s σ H xs us Q I r h
 obtain⟨p,ys,rfl,hq,q⟩:=h
 obtain⟨u,rfl,rx⟩:=vals1 r
 cases rx
 have fin:∀(its:List Value),Vals ys its→ys.length≤sizeLine→∀(h':Heap) (c':Nat),(∀b o',s.heap.get? b=some o'→h'.get? b=some o')→
  h'.get? s.heap.objs.size=some {cls:= .type "list",dict:=none,data:= .seq its.toArray c',slots:=#[]}→EP X pins σ Q (.ref s.heap.objs.size) {s with heap:=h'}:=fun its r' hz h' c' kp e=>
  ⟨.ref s.heap.objs.size,_,I.laid (t':=s.toks) kp (Nat.le_refl _) (show dJ X.prog X.w _ h' _ (.lst ys) from⟨hz,its,c',r',e⟩),rfl,q _ (I.hok.fresh (Nat.le_refl _))⟩
 rcases hq with hq | hq
 ·obtain⟨its,r',pl,hz⟩:=I.list hq
  have hlen:=r'.length
  obtain⟨o,ho,hc,n,hd⟩:=pl.isList
  exact call_list_seq p (.inl rfl) ho hc hd (fun h' c' kp e=>fin its r' hz h' c' kp e) (by simp only[List.size_toArray] <;> omega)
 ·obtain⟨its,r',pl,hz⟩:=I.tuple hq
  have hlen:=r'.length
  obtain⟨o,ho,hc,n,hd⟩:=pl
  exact call_list_seq p (.inr rfl) ho hc hd (fun h' c' kp e=>fin its r' hz h' c' kp e) (by simp only[List.size_toArray] <;> omega)
theorem rm:jU X (.type "tuple") (fun xs H Q=>∃p ys,xs=[.ref p]∧((mw X.K H p ys∧∀l,H l=none→Q (.ref l) (upd H l (.tup ys)))∨(oJ X.K H p ys∧Q (.ref p) H))):=by
 intro pins s σ H xs us Q I r h
 obtain⟨p,ys,rfl,h⟩:=h
 obtain⟨u,rfl,rx⟩:=vals1 r
 cases rx
 rcases h with⟨hq,q⟩ | ⟨hq,q⟩
 ·obtain⟨its,r',pl,hz⟩:=I.list hq
  have hlen:=r'.length
  refine call_tuple_list pl.isList (fun h' kp=>?_) (by simp only[List.size_toArray] <;> omega)
  have I1:Inv X pins σ H {s with heap:=h'}:=I.kept (t':=s.toks) kp
  have I2:Inv X pins σ (upd H h'.objs.size (.tup ys)) {s with heap:=h'.push {cls:= .type "tuple",data:= .seq its.toArray}}:=
   I1.laid (t':=s.toks) (fun b o e=>Heap.get?_push_of_some _ e) (Nat.le_refl _) (show dJ X.prog X.w _ _ _ (.tup ys) from⟨hz,its,r',IsTup.new _ _⟩)
  exact⟨.ref h'.objs.size,_,I2,rfl,q _ (I1.hok.fresh (Nat.le_refl _))⟩
 ·obtain⟨its,r',pl,hz⟩:=I.tuple hq
  exact call_tuple_same pl ⟨.ref p,H,I,rfl,q⟩
noncomputable def IX(K:PySem.W.Frag)(T:String)(x:V)(H:Hp):Prop:=match x with
 | .str _=>T="str"
 | .int _=>T="int"
 | .ref p=>(T="list"∧∃xs,mw K H p xs)∨(T="tuple"∧∃o,K.lookup p=some o∧o.cls= .type "tuple"∧o.dict=none)∨
    (T="dict"∧((∃kvs,H p=some (.dK kvs))∨∃kvs,H p=some (.dT kvs)))∨(T="set"∧∃S n,H p=some (.set S n))
 | _=>False
theorem FR{pins:List (Addr × Obj)}{σ:St}{H:Hp}{s:Shared}{T:String}{x:V}{v:Value}(I:Inv X pins σ H s)(r:RelV x v)(ty:IX X.K T x H) :
 s.TypeIs v T∧∀a,v= .ref a→∃ob,s.heap.get? a=some ob∧ob.dict=none:=by
 cases x with
 | str z=>
   obtain⟨t,rfl⟩:=r
   cases(show T="str" from ty)
   exact⟨typeIs_str s z t,fun _ e=>nomatch e⟩
 | int i=>
   obtain⟨t,rfl⟩:=r
   cases(show T="int" from ty)
   exact⟨typeIs_int s i t,fun _ e=>nomatch e⟩
 | ref p=>
   cases r
   rcases ty with⟨rfl,xs,hq⟩ | ⟨rfl,o,hk,hc,hd⟩ | ⟨rfl,hk⟩ | ⟨rfl,S,n,hk⟩
   ·obtain⟨its,_,pl,_⟩:=I.list hq
    refine⟨pl.isList.typeIs,fun a e=>?_⟩
    cases e
    obtain⟨o,n,e,c,hd,_⟩:=pl
    exact⟨o,e,hd⟩
   ·refine⟨⟨o,I.nC p o hk,hc⟩,fun a e=>?_⟩
    cases e
    exact⟨o,I.nC _ o hk,hd⟩
   ·have z:∃o,s.heap.get? p=some o∧o.ExactDict:=by
     rcases hk with⟨kvs,hk⟩ | ⟨kvs,hk⟩
     ·obtain⟨_,_,_,_,o,_,_,e,ex,_⟩:=I.hok p _ hk
      exact⟨o,e,ex⟩
     ·obtain⟨_,_,_,_,o,_,_,e,ex,_⟩:=I.hok p _ hk
      exact⟨o,e,ex⟩
    obtain⟨o,e,ex⟩:=z
    refine⟨⟨o,e,ex.1⟩,fun a e2=>?_⟩
    cases e2
    exact⟨o,e,ex.2.1⟩
   ·obtain⟨o,_,_,_,e,ex,_⟩:=I.hok p _ hk
    refine⟨⟨o,e,ex.1⟩,fun a e2=>?_⟩
    cases e2
    exact⟨o,e,ex.2.1⟩
 | _=>exact False.elim ty
noncomputable def K7(K:PySem.W.Frag)(T:String)(r:V→List V→Hp→VK→Prop)(to:TE):TE:=fun σ H Q=>to σ H fun x H1=>IX K T x H1∧r x [] H1 Q
noncomputable def K1(K:PySem.W.Frag)(T:String)(r:V→List V→Hp→VK→Prop)(to:TE)(t:TA):TE:=fun σ H Q=>to σ H fun x H1=>IX K T x H1∧t σ H1 fun xs H2=>r x xs H2 Q
variable {o e:Expr} {es:List Expr} {to:TE} {t:TA} {name:Str} {apos cpos:Pos} {T id:String} {r:V→List V→Hp→VK→Prop}
theorem yz(pa:PlainAttrs T)(slot:Slot T name id)(hty:typeOf (.builtin id)=pure (.type "method_descriptor"))(hm:KG X id r)(ho:PE X o to)(ha:PA X (e ::es) t)
 (hbase:attributeBase o name X.env (eval o X.env)=eval o X.env:=by rfl)
 (hfew:((backTo cpos (starEach (e ::es) X.env)).all (fun x=>!x.1) && (backToKw cpos (keywordEach [] X.env)).all (fun x=>x.1.isSome)
   && decide ((e ::es).length+([]:List Keyword).length+(if([]:List Keyword).isEmpty then 0 else 1) < 30))=true:=by rfl)
 (hline:(apos.endLine==cpos.line)=true:=by rfl) (hs:starEach (e ::es) X.env=(false,eval e X.env) ::starEach es X.env:=by rfl) (hplain:(backTo cpos (starEach es X.env)).any (·.1)=false:=by rfl) :
 PE X (.Call (.Attribute o name apos) (e ::es) [] cpos) (K1 X.K T r to t):=by
 intro pins s σ H Q I h
 refine wpAny_Call_method_late hbase hfew hline rfl (dQ (ho pins s σ H _ I h) fun v s1 ⟨x,H1,I1,r1,ty,q1⟩=>?_)
 obtain⟨h1,h2⟩:=FR I1 r1 ty
 refine⟨T,id,pa,slot,hty,h1,h2,?_⟩
 have hA:=ha cpos pins s1 σ H1 _ I1 q1
 rw[hs] at hA ⊢
 refine Calls.callWith_builtin (by show(false || (backTo cpos (starEach es X.env)).any (·.1))=false;rw [hplain] <;> rfl) (Calls.evalArgs_plain ?_)
 exact dQ hA fun us s2 ⟨vs,H2,I2,r2,q2⟩=>hm pins s2 σ H2 x vs v us Q I2 r1 r2 q2
end
end L2
namespace L2
open PySem PySem.Spec PyProof.Rows
noncomputable def KQ(X:Cx)(id:String)(r:V→List V→Hp→VK→Prop):Prop:=
 ∀(pins:List (Addr × Obj)) (s:Shared) (σ:St) (H:Hp) (x:V) (xs:List V) (v:Value) (us:List Value) (Q:VK),Inv X pins σ H s→RelV x v→Vals xs us→r x xs H Q→
  wpAny (model X.prog X.w) X.A (call (.builtin id) (v ::us)) (EP X pins σ Q) X.xe s
theorem Vals.one:∀{x:V} {us:List Value},Vals [x] us→∃u,us=[u]∧RelV x u
 | _,_, .cons r .nil=>⟨_,rfl,r⟩
theorem Vals.rep{xs:List V}{us:List Value}(h:Vals xs us):∀k:Nat,Vals (List.replicate k xs).flatten (List.replicate k us).flatten
 | 0=> .nil
 | k+1=>by
   rw[List.replicate_succ,List.replicate_succ,List.flatten_cons,List.flatten_cons]
   exact Vals.append h (Vals.rep h k)
theorem foldl_rep(its:List Value):∀(k:Nat) (acc:List Value),
 List.foldl (fun x1 x2=>x1++x2) acc.toArray (List.replicate k its.toArray)=(acc++(List.replicate k its).flatten).toArray
 | 0,acc=>by simp
 | k+1,acc=>by
   have e:acc.toArray++its.toArray=(acc++its).toArray:=by simp
   have e2:(acc++its)++(List.replicate k its).flatten=acc++(List.replicate (k+1) its).flatten:=by
    rw[List.replicate_succ,List.flatten_cons,List.append_assoc]
   rw[←e2,←foldl_rep its k (acc++its),←e,List.replicate_succ,List.foldl_cons]
section
variable {X:Cx} {pins:List (Addr × Obj)} {σ:St} {H:Hp} {s:Shared} {l b:Addr} {xs ys zs:List V}
theorem Inv.Jh{its its':List Value}{n:Nat}{f:Array Value→Array Value}{t':Nat}(I:Inv X pins σ H s)(hH:H l=some (.lst xs))
 (e:s.heap.get? l=some {cls:= .type "list",data:= .seq its.toArray n}) (hf:f its.toArray=its'.toArray) (hv:Vals ys its') (hz:ys.length≤sizeLine) :
 Inv X pins σ (upd H l (.lst ys)) {s with heap:=s.heap.update l (Obj.mapSeq f),toks:=t'}:=by
 have q:=PySem.IsL.update e f
 rw[hf] at q
 refine I.write (x:=l) (e:=l) (by rw[hH];exact trivial) (.inl rfl) (fun b' u hb hu=>(Heap.get?_update_other s.heap (Obj.mapSeq f) (Ne.symm hb)).trans hu) ⟨_,q⟩ ?_
 exact⟨hz,its',_,hv,q⟩
theorem Inv.D2{its:List Value}{t':Nat}(I:Inv X pins σ H s)(hv:Vals ys its)(hz:ys.length≤sizeLine) :
 Inv X pins σ (upd H s.heap.objs.size (.lst ys)) {s with heap:=s.heap.push {cls:= .type "list",data:= .seq its.toArray},toks:=t'}:=
 I.laid (fun _ _ q=>Heap.get?_push_of_some _ q) (Nat.le_refl _) ⟨hz,its,0,hv,Heap.get?_push_size _ rfl⟩
theorem Inv.fresh(I:Inv X pins σ H s):H s.heap.objs.size=none:=I.hok.fresh (Nat.le_refl _)
theorem Inv.HK(I:Inv X pins σ H s)(hH:H l=some (.lst xs)):xs.length≤sizeLine∧∃(its:List Value) (n:Nat),Vals xs its∧xs.length=its.length∧s.heap.get? l=some {cls:= .type "list",data:= .seq its.toArray n}:=by
 obtain⟨z,its,n,r,e⟩:=I.hok l _ hH
 exact⟨z,its,n,r,r.length,e⟩
theorem AI{n:Nat}(h:n≤sizeLine):Builtin.List.listTooLong n=false:=by
 unfold Builtin.List.listTooLong
 exact decide_eq_false (by omega)
end
section
variable {X:Cx}
noncomputable def CG:V→List V→Hp→VK→Prop:=fun x vs H Q=>∃l xs y,x= .ref l∧vs=[y]∧H l=some (.lst xs)∧xs.length < sizeLine∧Q .cI (upd H l (.lst (xs++[y])))
theorem lz:KQ X "list.append" CG:=by
 intro pins s σ H x vs v us Q I rx rv h
 obtain⟨l,xs,y,rfl,rfl,hH,hz,q⟩:=h
 cases rx
 obtain⟨u,rfl,ru⟩:=rv.one
 obtain⟨z,its,n,r,hl,e⟩:=I.HK hH
 refine call_meets F.slot_list_append ⟨_,e,rfl⟩ F.entry_list_append (F.args_list_append_2 _ _) (PySem.list_append l its.toArray n u (by rw[List.size_toArray];omega)) ⟨e,?_⟩
 refine⟨.cI,_,I.Jh (its':=its++[u]) hH e (by simp) (r.append (.cons ru .nil)) ?_,rfl,q⟩
 rw[List.length_append,List.length_singleton]
 omega
noncomputable def IG:V→List V→Hp→VK→Prop:=fun x vs H Q=>∃l b xs zs,x= .ref l∧vs=[.ref b]∧H l=some (.lst xs)∧H b=some (.lst zs)∧xs.length+zs.length≤sizeLine∧Q .cI (upd H l (.lst (xs++zs)))
noncomputable def KS:V→List V→Hp→VK→Prop:=fun x vs H Q=>∃l xs y,x= .ref l∧vs=[]∧H l=some (.lst xs)∧xs[xs.length - 1]? =some y∧Q y (upd H l (.lst xs.dropLast))
noncomputable def JX:V→List V→Hp→VK→Prop:=fun x vs H Q=>∃l xs i k y,x= .ref l∧vs=[.int i]∧H l=some (.lst xs)∧ -(2 ^ 63)≤i∧i < 2 ^ 63∧seqIndex? i xs.length=some k∧xs[k]? =some y∧Q y (upd H l (.lst (xs.eraseIdx k)))
noncomputable def Hc:V→List V→Hp→VK→Prop:=fun x vs H Q=>∃l xs,x= .ref l∧vs=[]∧H l=some (.lst xs)∧Q .cI (upd H l (.lst xs.reverse))
noncomputable def IZ:V→List V→Hp→VK→Prop:=fun x vs H Q=>∃l xs,x= .ref l∧vs=[]∧H l=some (.lst xs)∧Q .cI (upd H l (.lst []))
noncomputable def LL:R2:=fun x y H Q=>∃l b xs zs,x= .ref l∧y= .ref b∧H l=some (.lst xs)∧H b=some (.lst zs)∧xs.length+zs.length≤sizeLine∧∀p,H p=none→Q (.ref p) (upd H p (.lst (xs++zs)))
noncomputable def Jc:R2:=fun x y H Q=>∃l k xs,x= .ref l∧y= .int k∧H l=some (.lst xs)∧ -(2 ^ 63)≤k∧k < 2 ^ 63∧xs.length*k.toNat≤sizeLine∧
 ∀p,H p=none→Q (.ref p) (upd H p (.lst (List.replicate k.toNat xs).flatten))
theorem len_rep{α:Type}(xs:List α)(k:Nat):(List.replicate k xs).flatten.length=k*xs.length:=by
 induction k with
 | zero=>simp
 | succ k ih=>rw [List.replicate_succ,List.flatten_cons,List.length_append,ih,Nat.succ_mul,Nat.add_comm]
theorem Fd:kM X (binaryOp .Mult) Jc:=by
 intro pins s σ H x y v u Q I rx ry h
 obtain⟨l,k,xs,rfl,rfl,hH,h1,h2,hz,q⟩:=h
 cases rx
 obtain⟨t,rfl⟩:=ry
 obtain⟨z,its,n,r,hl,e⟩:=I.HK hH
 have hlen:its.toArray.size*k.toNat≤sizeLine:=by rw[List.size_toArray,←hl];exact hz
 have hcap:¬its.toArray.size*k.toNat > (2 ^ 63 - 1) / 8:=by
  have:(sizeLine:Nat)≤(2 ^ 63 - 1) / 8:=by decide
  omega
 have hfit:¬(!Builtin.List.listFitsIndex k)=true:=by
  rw[fitsIndex_both h1 h2]
  exact Bool.false_ne_true
 have hlong:¬Builtin.List.listTooLong (its.toArray.size*k.toNat)=true:=by
  rw[AI hlen]
  exact Bool.false_ne_true
 have hnew:List.foldl (fun x1 x2=>x1++x2) #[] (List.replicate (if its.toArray.isEmpty=true then 0 else k.toNat) its.toArray)=(List.replicate k.toNat its).flatten.toArray:=by
  have f0:∀m:Nat,List.foldl (fun x1 x2=>x1++x2) #[] (List.replicate m its.toArray)=(List.replicate m its).flatten.toArray:=fun m=>by
   have:=foldl_rep its m []
   rw[List.nil_append] at this
   exact this
  rw[f0]
  cases its with
  | nil=>simp
  | cons a r'=>rw [if_neg (by simp)]
 refine wpAny_binaryOp_repeat_ref (T:="list") (U:="int") (by decide) ⟨_,e,rfl⟩ (fun s'=>typeIs_int s' k t) noFill_list_mul F.fills_int_mul F.slot_int_rmul repeat_list F.slot_int_index.lookup
  (call_meets F.slot_int_rmul (typeIs_int s k t) F.entry_int_rmul (F.args_int_rmul_2 _ _) (int___rmul___int_list k t l its.toArray n)
    ⟨e,rfl,⟨_,e,rfl⟩,call_meets F.slot_list_mul ⟨_,e,rfl⟩ F.entry_list_mul (F.args_list_mul_2 _ _) (AutoListH.list___mul___list_int_3 l its.toArray n k t hfit hcap hlong) ⟨e,?_⟩⟩)
 rw[hnew]
 exact⟨.ref _,_,I.D2 (t':=s.toks) (r.rep k.toNat) (by rw[len_rep,Nat.mul_comm];exact hz),rfl,q _ I.fresh⟩
end
section
variable {prog:Program} {w:World} {A:Around} {E:Value→Shared→Prop} {s:Shared}
set_option maxRecDepth 100000 in
end
section
variable {X:Cx}
end
end L2
namespace Att
open PySem PySem.W PySem.Calls PyProof.Rows
theorem pf{P:Params}{h:Heap}:∀(ns:List Int) (vs:List Value),WellAll P h vs (ns.map WData.int)→IntsAre vs ns:=by
 intro ns
 induction ns with
 | nil=>
   intro vs w
   rw[List.map_nil] at w
   cases w
   exact .nil
 | cons n ns ih=>
   intro vs w
   rw[List.map_cons] at w
   cases w with
   | cons a b=>
     cases a
     exact .cons _ _ (ih _ b)
theorem yO{l:OpenLaw}{n:Nat}(hn:l.most=some n){P:Params}{h:Heap}{args:List WData}{vals:List Value}
 (hpre:l.row.toRowW.claim.pre args=true) (hwl:WellAll P h vals args) :
 ∃a vs ns,vals=[Value.ref a]∧args=[WData.list (ns.map WData.int)]∧h.get? a=some {cls:= .type "list",data:= .seq vs.toArray}∧IntsAre vs ns∧ns.length≤n:=by
 have hsh:WShape.hasAll [] args [.list .int]=true:=(pre_splitW hpre).1
 have hc:l.pre.holds [] {args:=args}=true:=(pre_splitW hpre).2
 obtain⟨d,r,rfl,h1,h2⟩:=hasAllW_cons hsh
 obtain rfl:=hasAllW_nil h2
 obtain⟨xs,rfl,h3⟩:=hasW_list h1
 obtain⟨ns,rfl⟩:=items_int h3
 have hlen:ns.length≤n:=by
  unfold OpenLaw.pre at hc
  have h4:(WTm.not (.lt (.lit (.int (n:Int))) (.len (.arg 0)))).holds [] {args:=[.list (ns.map .int)]}=true:=by
   have h4:=(holds_andW hc).1
   rw[hn] at h4
   exact h4
  have h5:=condW_of h4 (w_not (w_lt w_lit (w_len_list (w_arg rfl))))
  rw[List.length_map] at h5
  refine Nat.le_of_not_lt fun q=>?_
  have q':(n:Int) < ((ns.length:Nat):Int):=by omega
  first
   | (rw [decide_eq_true q'] at h5;exact absurd h5 (by decide))
   | (simp at h5;omega)
 cases hwl with
 | cons w1 w2=>
   cases w2
   cases w1 with
   | list ho hall=>exact⟨_,_,ns,rfl,rfl,ho,pf ns _ hall,hlen⟩
theorem yM(l:OpenLaw)(args:List WData):l.row.toRowW.claim.post args (.bool true) args=true:=
 postW_of (r:=l.row.toRowW) (X:=(true==true))
  (show WShape.has [] (.bool true) .bool=true by first | rfl | decide | simp [WShape.has,WShape.arms,WShape.armsAll])
  (show(WTm.eq .res (.lit (.bool true))).value [] {args:=args,res:=some (.bool true),after:=args}=some (.bool (true==true)) from w_eq_bool (w_res rfl) w_lit) rfl
theorem u_{l:OpenLaw}{n:Nat}{q:Program}{loose:List Str}{XP:(Str→Option Value)→Heap→Prop}{YP:World→Heap→Prop}{d:DefRec}
 (hn:l.most=some n) (hdf:d.params.defaults=[])
 (call:∀(w:World) (s₀ s₁:Shared) (mg mb:Str→Option Value) (fa:Addr) (o:Obj) (pm cd doc:Value) (a:Addr) (vs:List Value) (ns:List Int),
   Ground q loose [] XP w s₀ mg mb s₁.heap→YP w s₁.heap→
   s₁.heap.get? fa=some o→o.data= .func (docDef d.name d.params d.body d.scope pm cd doc)→s₁.heap.CodeRec cd d.name→mg d.name=some (.ref fa)→
   s₁.heap.get? a=some {cls:= .type "list",data:= .seq vs.toArray}→IntsAre vs ns→ns.length≤n→s₁.gens=#[]→
   codeAny (model l.prog w) callerA (.call (.ref fa) ⟨[.ref a],[]⟩) (fun r s'=>r= .ok (.ret (.bool true))∧OldK s₁.heap s'.heap∧s'.os=s₁.os∧AllBare s'.gens) s₁) :
 WalkO q loose XP YP l.row.toRowW d [] (fun f vs=>PySem.call f vs):=by
 intro w s₀ s₁ mg mb G Y fa o pm cd doc dV kV ho hd hcd hD hmg hg args vals as hpre hlay hrd hwl hlo
 obtain rfl:dV= .none:=Dflts.none hD hdf
 obtain rfl:kV= .none:=Dflts.noKw hD
 obtain⟨a,vs,ns,rfl,rfl,hobj,hints,hlen⟩:=yO hn hpre hwl
 refine enter_call (codeAny_mono (call w s₀ s₁ mg mb fa o pm cd doc a vs ns G Y ho (fd_plain hd) hcd hmg hobj hints hlen hg) fun r s' hq=>?_)
 obtain⟨rfl,h2,h3,h4⟩:=hq
 exact⟨.inl ⟨.bool true, .bool true,[],rfl,fun _=>rfl, .bool true,yM l _,fun _=>⟨List.Pairwise.nil,fun _ hm=>(nomatch hm)⟩⟩,h2,h3,h4⟩
section
variable {prog:Program} {w:World} {A:Around} {E:Value→Shared→Prop} {s:Shared} {K:Frag}
noncomputable def JM(h:Heap):Heap:={h with objs:=#[]}
noncomputable def ledger(h:Heap)(L d:Addr):List (Addr × Obj):=(List.range h.objs.size).filterMap fun a=>if a=L∨a=d then none else(h.get? a).map fun o=>(a,o)
end
end Att
namespace L2
open PySem PySem.Spec PyProof.Rows
theorem rV:∀{vs:List Value} {ns:List Int},IntsAre vs ns→Vals (ns.map V.int) vs
 | _,_, .nil=> .nil
 | _,_, .cons n t h=> .cons ⟨t,rfl⟩ (rV h)
noncomputable def Hn(H:Hp):Prop:=∀b,H b=none∨∃o xs,H b=some (.iA o (.lst xs))
end L2
namespace L2
open PySem PySem.Spec PyProof.Rows
noncomputable abbrev eQ{K:PySem.W.Frag}{h:Heap}(_:K.In h):PySem.W.Frag:=K
end L2
namespace L2
open PySem PySem.Spec PyProof.Rows
noncomputable def inClass(s:Stmt)(j:Nat):Stmt:=match s with
 | .ClassDef _ _ _ body _ _ _ _ _ _ _=>body.getD j (.Pass ⟨0,0,0,0⟩)
 | _=> .Pass ⟨0,0,0,0⟩
noncomputable def ix(s:Stmt):Arguments:=match s with
 | .FunctionDef _ a _ _ _ _ _ _ _ _=>a
 | _=>{posonlyargs:=[],args:=[],vararg:=none,kwonlyargs:=[],kw_defaults:=[],kwarg:=none,defaults:=[]}
noncomputable def aq(s:Stmt):List Stmt:=match s with
 | .FunctionDef _ _ b _ _ _ _ _ _ _=>b
 | _=>[]
noncomputable def ah(s:Stmt):Scope:=match s with
 | .FunctionDef _ _ _ _ _ _ sc _ _ _=>sc
 | _=>{kind:= .function,names:=[],isGenerator:=false,isCoroutine:=false}
noncomputable abbrev rh:B5:=fun _ _ _ _ _ _=>False
noncomputable abbrev E0:XK:=fun _ _ _=>False
theorem pV{X:Cx}:Passes rh X E0:=fun _ _ _ _ _ _ _ h=>h.elim
structure xU (K:PySem.W.Frag) (x qual:Str) (st:Stmt) (f:Addr) (fd:FuncData):Prop where
 ex:∃(oc:Value) (od:Option Addr) (kV doc pm:Value) (an:Option Addr) (cdv ct:Value) (osl:Array (Option Value)),
  fd=PySem.W.fnOf x qual (ix st) (aq st) (ah st) .none kV doc pm an cdv ct∧K.lookup f=some ⟨oc,od, .func fd,osl⟩∧PySem.W.codeIn K cdv qual=true
 kp:PySem.W.keepIn K (.ref f)=true
section
variable {P:Program} {w:World} {K:PySem.W.Frag} {mg:Str→Option Value} {base:Heap}
theorem xU.ok{x qual:Str}{st:Stmt}{f:Addr}{fd:FuncData}{N ps:List Str}{k:Nat}{sp:Sp}(F:xU K x qual st f fd)(S:ba N ps (ah st))(len:∀vs H Q E,sp vs H Q E→vs.length=ps.length)
 (hbody:∀(cdv:Value) (A:Around) (outer:List Env) (s:Shared) (H:Hp) (vs:List V) (Q:VK) (E:XK),d8 k (A.deeper (envOfC qual (ah st) s.heap.objs.size f cdv))→sp vs H Q E→
   ∃t,uc (qi rh P w K mg base N qual (ah st) f cdv A outer s H E).Ct (aq st) t∧t {nx:=fun _ H'=>Q .cI H',rt:=Q} (start N vs) H):hJ P w K mg base rh (k+1) f fd ps sp:=by
 obtain⟨oc,od,kV,doc,pm,an,cdv,ct,osl,rfl,lk,hcd⟩:=F.ex
 refine Iv lk hcd S len fun A outer s H vs Q E hr hsp=>?_
 obtain⟨t,h,q⟩:=hbody cdv A outer s H vs Q E hr hsp
 exact⟨t,h.Ct,q⟩
theorem xU.binds{x qual:Str}{st:Stmt}{f:Addr}{fd:FuncData}{ps:List Str}(F:xU K x qual st f fd)
 (h:∀(kV doc pm:Value) (an:Option Addr) (cdv ct:Value) (us:List Value),us.length=ps.length→bindArgs (PySem.W.fnOf x qual (ix st) (aq st) (ah st) .none kV doc pm an cdv ct) ⟨us,[]⟩=pure (ps.zip us)):Binds K fd ps []:=by
 obtain⟨oc,od,kV,doc,pm,an,cdv,ct,osl,rfl,lk,hcd⟩:=F.ex
 exact .all (h kV doc pm an cdv ct)
theorem pW{x qual:Str}{st:Stmt}{f:Addr}{oc:Value}{od an:Option Addr}{osl:Array (Option Value)}{kV doc pm cdv ct:Value}(l:K.lookup f=some ⟨oc,od, .func (PySem.W.fnOf x qual (ix st) (aq st) (ah st) .none kV doc pm an cdv ct),osl⟩)
 (c:PySem.W.codeIn K cdv qual=true) (k:PySem.W.keepIn K (.ref f)=true):xU K x qual st f (PySem.W.fnOf x qual (ix st) (aq st) (ah st) .none kV doc pm an cdv ct):=⟨⟨oc,od,kV,doc,pm,an,cdv,ct,osl,rfl,l,c⟩,k⟩
end
theorem Hk{A:Around}{k:Nat}(hr:d8 k A):A.units+1 < cLine:=Nat.lt_of_le_of_lt (Nat.add_le_add_left (by decide:1≤64) _) hr.units
section
variable {X:Cx}
end
theorem zw{A B:Prop}(h:B):if false=true then A else B:=by
 rw[if_neg Bool.false_ne_true]
 exact h
theorem yS{A B:Prop}(h:A):if true=true then A else B:=by
 rw[if_pos rfl]
 exact h
noncomputable def aY(H H':Hp):Prop:=∀b o,H b=some o→H' b=some o
theorem aY.refl(H:Hp):aY H H:=fun _ _ h=>h
theorem aY.trans{H H1 H2:Hp}(a:aY H H1)(b:aY H1 H2):aY H H2:=fun c o h=>b c o (a c o h)
theorem aY.free{H H':Hp}(e:aY H H'){l:Addr}(h:H' l=Option.none):H l=Option.none:=by
 cases q:H l with
 | none=>rfl
 | some o=>
   rw[e l o q] at h
   cases h
section
variable {κ:Type} [DecidableEq κ]
end
end L2
end
section
set_option maxRecDepth 100000
set_option maxHeartbeats 4000000
namespace L2
open PySem PySem.Spec PyProof.Rows
noncomputable def o8(cells:List (Str × Addr)):List (Str × NameKind)→List (Str × Addr)→List (Str × Addr)
 | [],acc=>acc
 | (n,k) ::r,acc=>o8 cells r (if k==NameKind.free then(n,(cells.lookup n).getD 0) ::acc else acc)
theorem ko{env:Env}:∀(names:List (Str × NameKind)) (acc:List (Str × Addr)),(∀y∈names,y.2= .free→∃c,env.cells.lookup y.1=some c)→
 (forIn names acc fun(x:Str × NameKind) (cs:List (Str × Addr))=>(match x with
   | (name,kind)=>if kind== .free then do let a ←cellOf env name;pure (ForInStep.yield ((name,a) ::cs)) else pure (ForInStep.yield cs):Sem (ForInStep (List (Str × Addr)))))=pure (o8 env.cells names acc)
 | [],acc,_=>by simp [o8]
 | (n,k) ::r,acc,h=>by
   rw[List.forIn_cons]
   by_cases hk:k=NameKind.free
   ·subst hk
    obtain⟨c,hc⟩:=h (n, .free) List.mem_cons_self rfl
    have e:cellOf env n=pure c:=by unfold cellOf;rw [hc]
    simp only[beq_self_eq_true,if_true,e,pure_bind,o8,hc,Option.getD_some]
    exact ko r _ fun y hy=>h y (List.mem_cons_of_mem _ hy)
   ·have hb:(k==NameKind.free)=false:=by simpa using hk
    simp only[hb,Bool.false_eq_true,if_false,pure_bind,o8]
    exact ko r _ fun y hy=>h y (List.mem_cons_of_mem _ hy)
theorem kA{env:Env}{scope:Scope}(h:∀y∈scope.names,y.2= .free→∃c,env.cells.lookup y.1=some c):closureFor scope env=pure (o8 env.cells scope.names []):=by
 unfold closureFor
 have:=ko (env:=env) scope.names [] h
 simp only[bind_pure]
 exact this
theorem ll{cells:List (Str × Addr)}:∀(names:List (Str × NameKind)) (acc:List (Str × Addr)) {x:Str} {c:Addr},(o8 cells names acc).lookup x=some c→
 acc.lookup x=some c∨((x,NameKind.free)∈names∧c=(cells.lookup x).getD 0)
 | [],acc,x,c,h=> .inl h
 | (n,k) ::r,acc,x,c,h=>by
   rcases ll r _ h with q | ⟨q1,q2⟩
   ·by_cases hk:k=NameKind.free
    ·subst hk
     simp only[beq_self_eq_true,if_true] at q
     cases hx:x==n with
     | true=>
       have e:x=n:=by simpa using hx
       subst e
       rw[List.lookup_cons,hx] at q
       exact .inr ⟨List.mem_cons_self,(Option.some.inj q).symm⟩
     | false=>
       rw[List.lookup_cons,hx] at q
       exact .inl q
    ·have hb:(k==NameKind.free)=false:=by simpa using hk
     simp only[hb,Bool.false_eq_true,if_false] at q
     exact .inl q
   ·exact .inr ⟨List.mem_cons_of_mem _ q1,q2⟩
theorem uA{cells:List (Str × Addr)}:∀(names:List (Str × NameKind)) (acc:List (Str × Addr)) {x:Str},((x,NameKind.free)∈names∨∃c,acc.lookup x=some c)→∃c,(o8 cells names acc).lookup x=some c
 | [],acc,x,h=>by
   rcases h with h | h
   ·simp at h
   ·exact h
 | (n,k) ::r,acc,x,h=>by
   refine uA r _ ?_
   rcases h with h | ⟨c,h⟩
   ·rcases List.mem_cons.mp h with e | e
    ·cases e
     exact .inr ⟨(cells.lookup n).getD 0,by simp [List.lookup_cons]⟩
    ·exact .inl e
   ·by_cases hk:k=NameKind.free
    ·subst hk
     simp only[beq_self_eq_true,if_true]
     cases hx:x==n with
     | true=>exact .inr ⟨(cells.lookup n).getD 0,by rw[List.lookup_cons,hx]⟩
     | false=>exact .inr ⟨c,by rw[List.lookup_cons,hx];exact h⟩
    ·have hb:(k==NameKind.free)=false:=by simpa using hk
     simp only[hb,Bool.false_eq_true,if_false]
     exact .inr ⟨c,h⟩
noncomputable def bN(X:Cx)(scope:Scope)(N':List Str)(fp:List Addr)(s:Shared)(H:Hp):Cx where
 prog:=X.prog
 w:=X.w
 K:=X.K
 mg:=X.mg
 base:=X.base
 A:=X.A
 N:=N'
 s₀:=s
 H₀:=H
 env:=compEnvC scope (o8 X.env.cells scope.names []) s.heap.objs.size X.env
 outer:=X.stack
 stack:=X.stack
 ex:=fp
 fn:=fun _=>false
 calm:=X.calm
 pn:=[]
 xe:=fun _ _=>False
structure cz (X:Cx) (scope:Scope) (own:List Str) (kp:List Nat) (kn:List Str):Prop where
 kind:scope.kind= .function
 nocell:∀y∈scope.names,y.2≠ .cell
 nd:∀y∈scope.names,y.2= .local→scope.names.lookup y.1=some .local
 free:∀y∈scope.names,y.2= .free→X.env.kindOf y.1=some .cell∨X.env.kindOf y.1=some .free
 names:kn.length=kp.length
 at_:∀(j i:Nat) (x:Str),kp[j]? =some i→kn[j]? =some x→X.N[i]? =some x
 isfree:∀x∈kn,scope.names.lookup x=some .free
noncomputable def dj(own:List Str)(kp:List Nat)(σ:St):St:=List.replicate own.length none++kp.map fun i=>(σ[i]?).getD none
section
variable {X:Cx} {scope:Scope} {own:List Str} {kp:List Nat} {kn:List Str}
theorem eK{env:Env}:∀{names:List (Str × NameKind)} {x:Str} {k:NameKind},
 (names.map fun(n,k)=>if(k==NameKind.free && env.scope.kind== .function && env.kindOf n==some .cell) then(n,NameKind.cell) else(n,k)).lookup x=some k→
 names.lookup x=some k∨(k= .cell∧names.lookup x=some .free)
 | [],_,_,h=>by simp at h
 | (n,k) ::r,x,k',h=>by
   have ih:=@eK env r x k'
   have h:List.lookup x ((if(k==NameKind.free && env.scope.kind== .function && env.kindOf n==some .cell)=true then(n,NameKind.cell) else(n,k)) ::_)=some k':=h
   by_cases hc:(k==NameKind.free && env.scope.kind== .function && env.kindOf n==some .cell)=true
   ·rw[if_pos hc] at h
    have hkf:k= .free:=by
     simp only[Bool.and_eq_true,beq_iff_eq] at hc
     exact hc.1.1
    cases hx:x==n with
    | true=>
      rw[List.lookup_cons,hx] at h
      cases h
      exact .inr ⟨rfl,by rw[List.lookup_cons,hx,hkf]⟩
    | false=>
      rw[List.lookup_cons,hx] at h
      rw[List.lookup_cons,hx]
      exact ih h
   ·rw[if_neg hc] at h
    cases hx:x==n with
    | true=>
      rw[List.lookup_cons,hx] at h
      rw[List.lookup_cons,hx]
      exact .inl h
    | false=>
      rw[List.lookup_cons,hx] at h
      rw[List.lookup_cons,hx]
      exact ih h
theorem mv{pins:List (Addr × Obj)}{σ:St}{H:Hp}{s:Shared}(C:cz X scope own kp kn)(I:Inv X pins σ H s):∀y∈scope.names,y.2= .free→∃c,X.env.cells.lookup y.1=some c:=fun y hy hf=>
 I.ok.has y.1 (C.free y hy hf)
theorem Ay{pins:List (Addr × Obj)}{σ:St}{H:Hp}{s:Shared}{fp:List Addr}{h₁:Heap}{tk:Nat}(C:cz X scope own kp kn)(I:Inv X pins σ H s)(hf:∀b∈fp,o9 X pins H b)(hb:∀b∈fp,b < s.heap.objs.size)
 (hn:h₁.Ns s.heap.objs.size (fun _=>none)) (hk:∀b o,s.heap.get? b=some o→h₁.get? b=some o):Inv (bN X scope (own++kn) fp s H) [] (dj own kp σ) H {s with heap:=h₁,toks:=tk}:=by
 have cl:∀x c,(o8 X.env.cells scope.names []).lookup x=some c→X.env.cells.lookup x=some c:=fun x c e=>by
  rcases ll scope.names [] e with q | ⟨q1,q2⟩
  ·simp at q
  ·obtain⟨c',hc'⟩:=mv C I (x, .free) q1 rfl
   have hc':X.env.cells.lookup x=some c':=hc'
   rw[hc'] at q2
   rw[hc',q2]
   rfl
 have clh:∀x,scope.names.lookup x=some .free→∃c,(o8 X.env.cells scope.names []).lookup x=some c:=fun x hx=>uA scope.names [] (.inl (PySem.mem_of_lookup hx))
 refine⟨⟨I.ok.mod,C.kind,I.ok.glob,I.ok.blt,Nat.le_refl _,fun x y c h1 h2=>I.ok.inj x y c (cl x c h1) (cl y c h2),fun x hx=>?_,fun x c h=>(by cases h),I.ok.hd,I.ok.frames, .inl rfl,fun b hb'=>⟨Nat.ne_of_lt (hb b hb'),fun x c e z=>(hf b hb').2.2.2.2.1 x c (cl x c e) z⟩,
  fun b o e=>I.bs b o e,Nat.le_trans I.ok.bsz I.sz,fun b o e hb'=>?_,fun b hb' hs=>?_,I.stack,I.ym⟩,
  rfl,I.bare,Un.kept hk,⟨_,hn,fun i x v h1 h2 h3=>?_⟩,fun x c e=>?_,I.hok.fresh (Nat.le_refl _),fun x c e=>I.freeC x c (cl x c e),fun p hp=>(by cases hp),I.hok.kept hk,?_⟩
 ·have hx:(relabel scope X.env).names.lookup x=some .cell∨(relabel scope X.env).names.lookup x=some .free:=hx
  rcases hx with hx | hx
  ·rcases eK hx with q | ⟨_,q⟩
   ·exact absurd rfl (C.nocell _ (PySem.mem_of_lookup q))
   ·exact clh x q
  ·rcases eK hx with q | ⟨q,_⟩
   ·exact clh x q
   ·cases q
 ·rcases(hf b hb').2.2.2.1 with z | z
  ·exact I.ok.noex b o e z
  ·exact absurd (Nat.lt_of_lt_of_le (Heap.lt_size (I.ok.bs b o e).1) z) (Nat.lt_irrefl _)
 ·rcases List.mem_cons.mp (I.wx b hs) with z | z
  ·exact(hf b hb').2.1 z
  ·exact(hf b hb').2.2.1 z
 ·-- a kept name
  have h1:(own++kn)[i]? =some x:=h1
  have h2:(dj own kp σ)[i]? =some (some v):=h2
  unfold dj at h2
  by_cases hi:i < own.length
  ·rw[List.getElem?_append_left (by simpa using hi),List.getElem?_replicate] at h2
   split at h2 <;> cases h2
  ·rw[List.getElem?_append_right (by simpa using hi),List.length_replicate,List.getElem?_map] at h2
   rw[List.getElem?_append_right (by simpa using hi)] at h1
   cases e:kp[i - own.length]? with
   | none=>rw [e] at h2;cases h2
   | some j=>
     rw[e] at h2
     have h2:(σ[j]?).getD none=some v:=Option.some.inj h2
     have hj:X.N[j]? =some x:=C.at_ _ j x e h1
     have hσ:σ[j]? =some (some v):=by
      cases q:σ[j]? with
      | none=>rw [q] at h2;cases h2
      | some y=>rw [q] at h2;exact congrArg some h2
     have hfree:scope.names.lookup x=some .free:=C.isfree x (List.mem_of_getElem? h1)
     have hkind:=C.free (x, .free) (PySem.mem_of_lookup hfree) rfl
     obtain⟨m,hm,hl⟩:=I.loc
     obtain⟨u,r,l⟩:=hl j x v hj hσ (hkind.elim (fun q=>Or.inr (Or.inl q)) fun q=>Or.inr (Or.inr q))
     refine⟨u,r, .inr ⟨?_,?_⟩⟩
     ·have h3:(relabel scope X.env).names.lookup x=some .local∨(relabel scope X.env).names.lookup x=some .cell∨(relabel scope X.env).names.lookup x=some .free:=h3
      rcases h3 with q | q | q
      ·rcases eK q with z | ⟨z,_⟩
       ·rw[hfree] at z;cases z
       ·cases z
      ·exact .inl q
      ·exact .inr q
     ·rcases l with⟨k,_⟩ | ⟨_,c,hc,hcell⟩
      ·rcases hkind with q | q
       ·rw[show X.env.kindOf x=some .cell from q] at k;cases k
       ·rw[show X.env.kindOf x=some .free from q] at k;cases k
      ·obtain⟨c',hc'⟩:=clh x hfree
       have:=cl x c' hc'
       rw[hc] at this
       cases this
       obtain⟨o,ho,hd⟩:=hcell
       exact⟨c,hc',o,hk c o ho,hd⟩
 ·obtain⟨v,o,ho,hd⟩:=I.cell x c (cl x c e)
  exact⟨v,o,hk c o ho,hd⟩
 ·show(dj own kp σ).length=(own++kn).length
  unfold dj
  rw[List.length_append,List.length_replicate,List.length_map,List.length_append,C.names]
theorem qu{pins:List (Addr × Obj)}{σ σ':St}{H H':Hp}{s s':Shared}{fp:List Addr}{N':List Str}(I:Inv X pins σ H s)(hf:∀b∈fp,o9 X pins H b)(J:Inv (bN X scope N' fp s H) [] σ' H' s'):Inv X pins σ H' s':=
 I.HH (ch:=fp) J.os J.base J.hok J.bare fun b hb=>⟨(hf b hb).2.2.2.1,(hf b hb).2.1,(hf b hb).2.2.2.2.1,(hf b hb).2.2.2.2.2⟩
end
noncomputable def nj(X:Cx)(ifs:List Expr)(t:TT):Prop:=
 ∀(pins:List (Addr × Obj)) (s:Shared) (σ:St) (H:Hp) (Q:Bool→Hp→Prop),Inv X pins σ H s→t σ H Q→
  wpAny (model X.prog X.w) X.A (forIn ifs true fun c r=>if r=true then do let ok ←isTrue c X.env (eval c X.env);pure (ForInStep.yield ok) else pure (ForInStep.yield r)) (TP X pins σ Q) X.xe s
noncomputable def IY:TT:=fun _ H Q=>Q true H
theorem uS{X:Cx}:nj X [] IY:=fun _ _ _ H _ I h=>wpAny_tests_nil ⟨H,I,h⟩
theorem vf{X:Cx}{c:Expr}{t:TT}(h:PT X c t):nj X [c] t:=fun pins s σ H Q I hq=>wpAny_tests_one (h pins s σ H Q I hq)
noncomputable def u7(wi:TI)(g:TG)(tc:TT)(te:TE)(own:List Str)(kp:List Nat):TE:=fun σ H Q=>wi σ H fun J H1=>∀D,H1 D=none→
 ∃W:Nat→Nat→List V→Hp→Prop,(∃m,W 0 m [] (upd H1 D (.lst [])))∧∀i m ys H,W i m ys H→
  (J.stop i H∧Q (.ref D) H)∨(J.go i H∧∀x H',J.yld i H x H'→g x (dj own kp σ) H' fun σ2 H2=>tc σ2 H2 fun c H3=>
    if c=true then te σ2 H3 fun y H4=>H4 D=some (.lst ys)∧ys.length < sizeLine∧∃m',m' < m∧W (i+1) m' (ys++[y]) (upd H4 D (.lst (ys++[y])))
    else ∃m',m' < m∧W (i+1) m' ys H3)
section
variable {X:Cx} {scope:Scope} {own:List Str} {kp:List Nat} {kn:List Str} {tg iter elt:Expr} {ifs:List Expr} {wi:TI} {g:TG} {tc:TT} {te:TE} {pos:Pos}
theorem uR{pins:List (Addr × Obj)}{σ:St}{H:Hp}{s:Shared}{fp:List Addr}{it D:Addr}{tn:Nat→Heap→Prop}{J:It}{Q:VK}{h₁:Heap}{tk:Nat}{R:Result→Shared→Prop}
 (hc:X.calm=true) (C:cz X scope own kp kn) (I:Inv X pins σ H s) (hf:∀b∈fp,o9 X pins H b) (hb:∀b∈fp,b < s.heap.objs.size) (T:Turn X.prog X.w X.K tg J fp it tn)
 (hg:PG (bN X scope (own++kn) fp s H) tg g) (hi:nj (bN X scope (own++kn) fp s H) ifs tc) (he:PE (bN X scope (own++kn) fp s H) elt te)
 (hn:h₁.Ns s.heap.objs.size (fun _=>none)) (hk:∀b o,s.heap.get? b=some o→h₁.get? b=some o) (st:tn 0 s.heap)
 (W:Nat→Nat→List V→Hp→Prop) (w0:∃m,W 0 m [] H)
 (turn:∀i m ys H,W i m ys H→
   (J.stop i H∧Q (.ref D) H)∨(J.go i H∧∀x H',J.yld i H x H'→g x (dj own kp σ) H' fun σ2 H2=>tc σ2 H2 fun c H3=>
     if c=true then te σ2 H3 fun y H4=>H4 D=some (.lst ys)∧ys.length < sizeLine∧∃m',m' < m∧W (i+1) m' (ys++[y]) (upd H4 D (.lst (ys++[y])))
     else ∃m',m' < m∧W (i+1) m' ys H3))
 (hR:∀H' s' σ',Inv (bN X scope (own++kn) fp s H) [] σ' H' s'→Q (.ref D) H'→R (.ok .next) s') :
 codeAny (model X.prog X.w) X.A (.compStart (.ListComp elt [⟨tg,iter,ifs,0⟩] scope pos) 0 (.ref it) (.ref D) (bN X scope (own++kn) fp s H).env) R {s with heap:=h₁,toks:=tk}:=by
 have I1:Inv (bN X scope (own++kn) fp s H) [] (dj own kp σ) H {s with heap:=h₁,toks:=tk}:=Ay C I hf hb hn hk
 have st1:tn 0 h₁:=T.keep _ _ _ st fun b _ o e=>hk b o e
 have fp1:∀{H':Hp} {p:List (Addr × Obj)},(∀b∈fp,H' b=none)→(∀b∈fp,∀q∈p,q.1≠b)→∀b∈fp,o9 (bN X scope (own++kn) fp s H) p H' b:=fun {H' p} hn hp b hb'=>
  ⟨hn b hb',(I1.ok.exf b hb').1,I1.ok.exfs b hb', .inl hb',fun x c e=>(I1.ok.exf b hb').2 x c e,fun q hq=>hp b hb' q hq⟩
 obtain⟨m0,w0⟩:=w0
 have loop:codeAny (model X.prog X.w) X.A (.compLoop (.ListComp elt [⟨tg,iter,ifs,0⟩] scope pos) 0 (.ref it) (.ref D) (bN X scope (own++kn) fp s H).env) R {s with heap:=h₁,toks:=tk}:=by
  refine codeAny_loop rfl (fun n s'=>∃i ys H',Inv (bN X scope (own++kn) fp s H) [] (dj own kp σ) H' s'∧tn i s'.heap∧(∀b∈fp,H' b=none)∧W i n ys H') (fun n s' hI=>?_) m0 ⟨0,[],H,I1,st1,fun b hb'=>(hf b hb').1,w0⟩
  obtain⟨i,ys,H3,I3,st3,fr3,w3⟩:=hI
  show wpAny _ _ ((compTurn (.ListComp elt [⟨tg,iter,ifs,0⟩] scope pos) 0 (.ref it) (.ref D) (bN X scope (own++kn) fp s H).env).onRaise (fun x=>do noteFrame x (bN X scope (own++kn) fp s H).env;theTreesLotGoes x)) _ _ s'
  refine wpAny_noted (wpAny_noRaise ?_)
  rw[compTurn_list]
  refine wpAny_bind (wpAny_standAt (wpAny_bind ?_))
  rcases turn i n ys H3 w3 with⟨stop,q⟩ | ⟨go,step⟩
  ·refine dQ (T.done (bN X scope (own++kn) fp s H) rfl rfl rfl hc i [] s' _ H3 _ I3 (fp1 fr3 (fun _ _ q hq=>by cases hq)) st3 stop) fun r s4 ⟨hr,I4⟩=>?_
   subst hr
   exact wpAny_pure (hR H3 s4 _ I4 q)
  ·refine dQ (T.item (bN X scope (own++kn) fp s H) rfl rfl rfl hc i [] s' _ H3 _ I3 (fp1 fr3 (fun _ _ q hq=>by cases hq)) st3 go) fun r s4 ⟨u,hr,h4⟩=>?_
   subst hr
   refine wpAny_bind (dQ h4 fun _ s5 ⟨x,H5,I5,r5,y5,st5,fr5⟩=>?_)
   have I5':=I5.pinned (fp1 fr5 (fun _ _ q hq=>by cases hq)) (T.obj _ _ st5)
   have keepIt:∀{σ7:St} {H7:Hp} {s7:Shared},Inv (bN X scope (own++kn) fp s H) ([]++l4 fp s5.heap) σ7 H7 s7→tn (i+1) s7.heap∧∀b∈fp,H7 b=none:=fun {σ7 H7 s7} I7=>by
    refine⟨T.keep _ _ _ st5 fun b hb o e=>(I7.pin (b,o) (List.mem_append_right _ (List.mem_append_right _ (j4 hb e)))).1,fun b hb=>?_⟩
    obtain⟨o,e,d⟩:=T.obj _ _ st5 b hb
    exact(I7.pin (b,o) (List.mem_append_right _ (List.mem_append_right _ (j4 hb e)))).2.1
   have reset:∀{σ7:St} {H7:Hp} {s7:Shared},Inv (bN X scope (own++kn) fp s H) ([]++l4 fp s5.heap) σ7 H7 s7→Inv (bN X scope (own++kn) fp s H) [] (dj own kp σ) H7 s7:=fun {σ7 H7 s7} I7=>by
    have I8:=I7.mL
    have hun:Un (zI X.stack) fp H H7 s.heap s7.heap:=I8.base
    have I9:Inv X pins σ H7 s7:=qu I hf I8
    refine⟨I8.ok,I8.os,I8.bare,I8.base,?_,I8.cell,I8.free,I8.freeC,I8.pin,I8.hok,I1.len⟩
    obtain⟨m,hm,_⟩:=I8.loc
    refine⟨m,hm,fun i x v h1 h2 h3=>?_⟩
    obtain⟨m1,hm1,hl1⟩:=I1.loc
    obtain⟨u1,r1,l1⟩:=hl1 i x v h1 h2 h3
    have h1:(own++kn)[i]? =some x:=h1
    have h2:(dj own kp σ)[i]? =some (some v):=h2
    unfold dj at h2
    by_cases hi:i < own.length
    ·rw[List.getElem?_append_left (by simpa using hi),List.getElem?_replicate] at h2
     split at h2 <;> cases h2
    ·rw[List.getElem?_append_right (by simpa using hi),List.length_replicate,List.getElem?_map] at h2
     rw[List.getElem?_append_right (by simpa using hi)] at h1
     cases e:kp[i - own.length]? with
     | none=>rw [e] at h2;cases h2
     | some j=>
       rw[e] at h2
       have h2:(σ[j]?).getD none=some v:=Option.some.inj h2
       have hj:X.N[j]? =some x:=C.at_ _ j x e h1
       have hσ:σ[j]? =some (some v):=by
        cases q:σ[j]? with
        | none=>rw [q] at h2;cases h2
        | some y=>rw [q] at h2;exact congrArg some h2
       have hfree:scope.names.lookup x=some .free:=C.isfree x (List.mem_of_getElem? h1)
       have hkind:=C.free (x, .free) (PySem.mem_of_lookup hfree) rfl
       obtain⟨m9,hm9,hl9⟩:=I9.loc
       obtain⟨u,r,l⟩:=hl9 j x v hj hσ (hkind.elim (fun q=>Or.inr (Or.inl q)) fun q=>Or.inr (Or.inr q))
       refine⟨u,r, .inr ?_⟩
       rcases l1 with⟨k,k2⟩ | ⟨k,c,hc,hcell⟩
       ·have k:(relabel scope X.env).names.lookup x=some .local:=k
        rcases eK k with z | ⟨z,_⟩
        ·rw[hfree] at z;cases z
        ·cases z
       ·refine⟨k,c,hc,?_⟩
        rcases l with⟨k',_⟩ | ⟨_,c',hc',hcell'⟩
        ·rcases hkind with q | q
         ·rw[show X.env.kindOf x=some .cell from q] at k';cases k'
         ·rw[show X.env.kindOf x=some .free from q] at k';cases k'
        ·have hcl:(o8 X.env.cells scope.names []).lookup x=some c:=hc
         rcases ll scope.names [] hcl with q | ⟨q1,q2⟩
         ·simp at q
         ·rw[hc'] at q2
          have q2:c=c':=q2
          rw[q2]
          exact hcell'
   have hmm:=hg ([]++l4 fp s5.heap) s5 (dj own kp σ) H5 x u _ I5' r5 (step x H5 y5)
   refine wpAny_bind (dQ hmm fun _ s6 ⟨σ6,H6,I6,q6⟩=>?_)
   refine wpAny_bind (dQ (hi _ s6 σ6 H6 _ I6 q6) fun ok s7 ⟨H7,I7,q7⟩=>?_)
   cases ok with
   | false=>
     simp only[Bool.false_eq_true,if_false] at q7 ⊢
     obtain⟨m',hm',w7⟩:=q7
     obtain⟨a1,a2⟩:=keepIt I7
     exact wpAny_pure ⟨rfl,m',hm',i+1,ys,H7,reset I7,a1,a2,w7⟩
   | true=>
     simp only[if_true] at q7 ⊢
     refine wpAny_bind (wpAny_bind (dQ (he _ s7 σ6 H7 _ I7 q7) fun yv s8 ⟨y,H8,I8,r8,hD,hlt,m',hm',w8⟩=>wpAny_bind ?_))
     obtain⟨a1,a2⟩:=keepIt I8
     refine dQ (lz _ s8 σ6 H8 (.ref D) [y] (.ref D) [yv] (fun v H9=>v= .cI∧H9=upd H8 D (.lst (ys++[y]))) I8 rfl (.cons r8 .nil) ⟨D,ys,y,rfl,rfl,hD,hlt,rfl,rfl⟩) fun _ s9 ⟨v9,H9,I9,_,_,e9⟩=>?_
     subst e9
     obtain⟨b1,b2⟩:=keepIt I9
     exact wpAny_pure (wpAny_pure ⟨rfl,m',hm',i+1,ys++[y],_,reset I9,b1,b2,w8⟩)
 exact codeAny_compStart_list loop (T.self _ _ _ _ _ st1 loop)
theorem t_(hc:X.calm=true)(C:cz X scope own kp kn)(hi:PI X tg iter wi)(hg:∀fp s H,PG (bN X scope (own++kn) fp s H) tg g)(hif:∀fp s H,nj (bN X scope (own++kn) fp s H) ifs tc)
 (he:∀fp s H,PE (bN X scope (own++kn) fp s H) elt te) (hs:∀x,foldedSetIterable iter X.env x=pure x:=by intro _;rfl):PE X (.ListComp elt [⟨tg,iter,ifs,0⟩] scope pos) (u7 wi g tc te own kp):=by
 intro pins s σ H Q I h
 rw[eval_ListComp]
 refine wpAny_comprehension_free (use:=none) rfl hs (kA (mv C I)) C.kind C.nd (dQ (hi pins s σ H _ I h) fun v s1 h1=>dQ h1 fun itv s2 h2=>?_)
 obtain⟨it,fp,tn,J,H2,e,I2,T,st2,f2,q⟩:=h2
 subst e
 refine wpAny_newObj_type ?_
 have I3:Inv X pins σ (upd H2 s2.heap.objs.size (.lst [])) {s2 with heap:=s2.heap.push {cls:= .type "list",dict:=none,data:= .seq ([]:List Value).toArray}}:=I2.D2 (its:=[]) (t':=s2.toks) .nil (Nat.zero_le _)
 obtain⟨W,w0,turn⟩:=q s2.heap.objs.size I2.fresh
 have fne:∀b∈fp,b < s2.heap.objs.size:=fun b hb=>let⟨o,e,_⟩:=T.obj _ _ st2 b hb;Heap.lt_size e
 have f3:∀b∈fp,o9 X pins (upd H2 s2.heap.objs.size (.lst [])) b:=fun b hb=>⟨by rw[bg (Nat.ne_of_lt (fne b hb))];exact(f2 b hb).1,(f2 b hb).2⟩
 generalize hs3:({s2 with heap:=s2.heap.push {cls:= .type "list",dict:=none,data:= .seq ([]:List Value).toArray}}:Shared)=s3 at I3 ⊢
 have st3:tn 0 s3.heap:=by rw[←hs3];exact T.keep _ _ _ st2 fun b _ o e=>Heap.get?_push_of_some _ e
 have fne3:∀b∈fp,b < s3.heap.objs.size:=fun b hb=>by rw[←hs3];exact Nat.lt_of_lt_of_le (fne b hb) (by rw[Heap.size_push];exact Nat.le_succ _)
 refine wpAny_newFunctionEnv (fun y hy=>C.nocell y hy) (by intro y hy;simp at hy) (fun h₁ hns₁ hsb₁=>?_) C.kind
 have hk:∀b o,s3.heap.get? b=some o→h₁.get? b=some o:=fun b o e=>hsb₁.extBut b o (Nat.ne_of_lt (Heap.lt_size e)) (Heap.get?_push_of_some _ e)
 refine uR (D:=s2.heap.objs.size) hc C I3 f3 fne3 T (hg fp s3 _) (hif fp s3 _) (he fp s3 _) hns₁ hk st3 W w0 turn fun H' s' σ' J' hq=>?_
 have B:=qu I3 f3 J'
 obtain⟨m',hm',_⟩:=J'.loc
 refine⟨m',hm',fun h' sb=>⟨.ref s2.heap.objs.size,H',?_,rfl,hq⟩⟩
 have fC:=I3.tW (H':=H') (b:=s3.heap.objs.size) (Nat.le_refl _) J'.free
 exact B.turned (it:=s3.heap.objs.size) (t':=s'.toks) (fun b o hb e=>(sb.2 b hb).trans e) fC.1 fC.2.1 fC.2.2.2.1 fC.2.2.2.2.1 fC.2.2.2.2.2
theorem xf{i:Nat}{x:Str}{pos' spos:Pos}(hc:X.calm=true)(hN:X.N.Nodup)(hx:X.N[i]? =some x)(hxl:X.env.scope.names.lookup x=some .local)(C:cz X scope own kp kn)(hi:PI X tg iter wi)
 (hg:∀fp s H,PG (bN X scope (own++kn) fp s H) tg g) (hif:∀fp s H,nj (bN X scope (own++kn) fp s H) ifs tc)
 (he:∀fp s H,PE (bN X scope (own++kn) fp s H) elt te)
 (hsw:swapsWith (.ListComp elt [⟨tg,iter,ifs,0⟩] scope pos) (some (.Name x pos')) spos.line X.env=pure true:=by rfl)
 (hs:∀x,foldedSetIterable iter X.env x=pure x:=by intro _;rfl) :
 PS X (.Assign [.Name x pos'] (.ListComp elt [⟨tg,iter,ifs,0⟩] scope pos) spos) (zg (u7 wi g tc te own kp) (qd i)):=by
 intro pins s σ H D I h
 rw[exec_Assign_Name_used _ _ _ _ hsw]
 refine wpAny_bind (wpAny_standAt (wpAny_bind ?_))
 show wpAny _ X.A (do let _ ←comprehension (.ListComp elt [⟨tg,iter,ifs,0⟩] scope pos) scope X.env _ (newList []) false (eval iter X.env) (some (assign (.Name x pos') X.env))) _ _ s
 refine wpAny_bind (wpAny_mono (wpAny_comprehension_free (use:=some (assign (.Name x pos') X.env)) (Q:=fun _ s'=>SP X pins D .next s') rfl hs (kA (mv C I)) C.kind C.nd
  (dQ (hi pins s σ H _ I h) fun v s1 h1=>dQ h1 fun itv s2 h2=>?_)) (fun _ s' hq=>wpAny_pure (wpAny_pure hq)) fun _ _ e=>e)
 obtain⟨it,fp,tn,J,H2,e,I2,T,st2,f2,q⟩:=h2
 subst e
 refine wpAny_newObj_type ?_
 have I3:Inv X pins σ (upd H2 s2.heap.objs.size (.lst [])) {s2 with heap:=s2.heap.push {cls:= .type "list",dict:=none,data:= .seq ([]:List Value).toArray}}:=I2.D2 (its:=[]) (t':=s2.toks) .nil (Nat.zero_le _)
 obtain⟨W,w0,turn⟩:=q s2.heap.objs.size I2.fresh
 have fne:∀b∈fp,b < s2.heap.objs.size:=fun b hb=>let⟨o,e,_⟩:=T.obj _ _ st2 b hb;Heap.lt_size e
 have f3:∀b∈fp,o9 X pins (upd H2 s2.heap.objs.size (.lst [])) b:=fun b hb=>⟨by rw[bg (Nat.ne_of_lt (fne b hb))];exact(f2 b hb).1,(f2 b hb).2⟩
 generalize hs3:({s2 with heap:=s2.heap.push {cls:= .type "list",dict:=none,data:= .seq ([]:List Value).toArray}}:Shared)=s3 at I3 ⊢
 have st3:tn 0 s3.heap:=by rw[←hs3];exact T.keep _ _ _ st2 fun b _ o e=>Heap.get?_push_of_some _ e
 have fne3:∀b∈fp,b < s3.heap.objs.size:=fun b hb=>by rw[←hs3];exact Nat.lt_of_lt_of_le (fne b hb) (by rw[Heap.size_push];exact Nat.le_succ _)
 refine wpAny_newFunctionEnv (fun y hy=>C.nocell y hy) (by intro y hy;simp at hy) (fun h₁ hns₁ hsb₁=>?_) C.kind
 have hk:∀b o,s3.heap.get? b=some o→h₁.get? b=some o:=fun b o e=>hsb₁.extBut b o (Nat.ne_of_lt (Heap.lt_size e)) (Heap.get?_push_of_some _ e)
 refine uR (Q:=fun x H1=>qd i x σ H1 D.nx) (D:=s2.heap.objs.size) hc C I3 f3 fne3 T (hg fp s3 _) (hif fp s3 _) (he fp s3 _) hns₁ hk st3 W w0 turn fun H' s' σ' J' hq=>?_
 have B:=qu I3 f3 J'
 obtain⟨m',hm',_⟩:=J'.loc
 have fC:=I3.tW (H':=H') (b:=s3.heap.objs.size) (Nat.le_refl _) J'.free
 show wpAny _ X.A (assign (.Name x pos') X.env (.ref s2.heap.objs.size)) _ _ s'
 refine wpAny_assign_Name (sC B hN hx (.inl hxl) (v:= .ref s2.heap.objs.size) rfl (fun s4 I4 ⟨a,sb,ha⟩=>?_) (.inr hxl))
 have ha':s3.heap.objs.size≠a:=by
  rcases ha with rfl | z
  ·exact fC.2.1
  ·exact fun e=>fC.2.2.2.2.1 x a z e.symm
 refine⟨m',hm'.sameBut sb ha',fun h' sb'=>⟨_,H',?_,hq⟩⟩
 exact I4.turned (it:=s3.heap.objs.size) (t':=s4.toks) (fun b o hb e=>(sb'.2 b hb).trans e) fC.1 fC.2.1 fC.2.2.2.1 fC.2.2.2.2.1 fC.2.2.2.2.2
end
end L2
end
section
set_option maxRecDepth 100000
set_option maxHeartbeats 4000000
namespace L2
open PySem PySem.Spec PyProof.Rows
inductive D where
 | cI | bl (b:Bool) | int (i:Int) | str (x:Str) | lst (ds:List D) | tup (ds:List D) | dct (ks:List Key) (ds:List D)
inductive R (α:Type) where
 | ok (a:α) | ex (c:Nat) | no
noncomputable def R.bind{α β:Type}:R α→(α→R β)→R β
 | .ok a,f=>f a
 | .ex c,_=> .ex c
 | .no,_=> .no
theorem R.ak{α β:Type}{r:R α}{f:α→R β}{b:β}(h:r.bind f= .ok b):∃a,r= .ok a∧f a= .ok b:=by
 cases r with
 | ok a=>exact⟨a,rfl,h⟩
 | ex c=>cases h
 | no=>cases h
@[simp] theorem R.aV{α β:Type}(a:α)(f:α→R β):(R.ok a).bind f=f a:=rfl
noncomputable def R.bZ{α:Type}(c:Bool)(r:R α):R α:=if c then r else .no
theorem R.bo{α:Type}{c:Bool}{r:R α}{a:α}(h:R.bZ c r= .ok a):c=true∧r= .ok a:=by
 cases c with
 | true=>exact⟨rfl,h⟩
 | false=>cases h
@[simp] theorem R.fO{α:Type}(r:R α):R.bZ true r=r:=rfl
noncomputable def qV(K:PySem.W.Frag)(B:List Addr)(H:Hp)(a:Addr)(xs:List V):Prop:=
 (a ∉ B∧Rd H a (.lst xs))∨∃(its:List Value) (n:Nat),K.lookup a=some {cls:= .type "list",data:= .seq its.toArray n}∧xs.length≤sizeLine∧Vals xs its
noncomputable def tp(K:PySem.W.Frag)(B:List Addr)(H:Hp)(a:Addr)(xs:List V):Prop:=
 (a ∉ B∧Rd H a (.tup xs))∨∃(o:Obj) (its:Array Value) (n:Nat),K.lookup a=some o∧o.cls= .type "tuple"∧o.data= .seq its n∧its.size≤sizeLine∧Vals xs its.toList
theorem qV.sq{K:PySem.W.Frag}{B:List Addr}{H:Hp}{a:Addr}{xs:List V}(h:qV K B H a xs):mw K H a xs:=by
 rcases h with z | ⟨its,n,hk,hz,r⟩
 ·exact .inl z.2
 ·exact .inr ⟨_,its.toArray,n,hk,rfl,rfl,rfl,by rw[List.size_toArray,←r.length];exact hz,by simpa using r⟩
theorem tp.sq{K:PySem.W.Frag}{B:List Addr}{H:Hp}{a:Addr}{xs:List V}(h:tp K B H a xs):oJ K H a xs:=h.elim (fun z=> .inl z.2) .inr
mutual
noncomputable def Rep(K:PySem.W.Frag)(B:List Addr)(H:Hp):D→V→Prop
 | .cI,v=>v= .cI
 | .bl b,v=>v= .bl b
 | .int i,v=>v= .int i
 | .str x,v=>v= .str x
 | .lst ds,v=>∃a xs,v= .ref a∧qV K B H a xs∧aH K B H ds xs
 | .tup ds,v=>∃a xs,v= .ref a∧tp K B H a xs∧aH K B H ds xs
 | .dct ks ds,v=>∃(a:Addr) (kvs:List (Key × V)),v= .ref a∧(a ∉ B∧H a=some (.dK kvs))∧kvs.map (·.1)=ks∧aH K B H ds (kvs.map (·.2))
noncomputable def aH(K:PySem.W.Frag)(B:List Addr)(H:Hp):List D→List V→Prop
 | [],xs=>xs=[]
 | d ::ds,xs=>∃x r,xs=x ::r∧Rep K B H d x∧aH K B H ds r
end
noncomputable def dR(B:List Addr)(H:Hp)(B':List Addr)(H':Hp):Prop:=∀b o,H b=some o→b ∉ B→H' b=some o∧b ∉ B'
theorem dR.rd{B B':List Addr}{H H':Hp}(p:dR B H B' H'){a:Addr}{u:HO}(h:Rd H a u)(n:a ∉ B):Rd H' a u∧a ∉ B':=by
 rcases h with e | ⟨o,e⟩
 ·exact⟨.inl (p a _ e n).1,(p a _ e n).2⟩
 ·exact⟨.inr ⟨o,(p a _ e n).1⟩,(p a _ e n).2⟩
theorem dR.trans{B B' B'':List Addr}{H H' H'':Hp}(p:dR B H B' H')(q:dR B' H' B'' H''):dR B H B'' H'':=fun b o e n=>
 let⟨e1,n1⟩:=p b o e n;q b o e1 n1
theorem dR.same{B:List Addr}{H H':Hp}(s:aY H H'):dR B H B H':=fun b o e n=>⟨s b o e,n⟩
theorem dR.refl(B:List Addr)(H:Hp):dR B H B H:=dR.same (aY.refl H)
theorem qV.br{K:PySem.W.Frag}{B B':List Addr}{H H':Hp}(p:dR B H B' H'){a:Addr}{xs:List V}(l:qV K B H a xs):qV K B' H' a xs:=
 l.elim (fun z=> .inl ⟨(p.rd z.2 z.1).2,(p.rd z.2 z.1).1⟩) .inr
mutual
theorem Rep.br{K:PySem.W.Frag}{B B':List Addr}{H H':Hp}(p:dR B H B' H'):∀{d:D} {v:V},Rep K B H d v→Rep K B' H' d v
 | .cI,_,h=>h
 | .bl _,_,h=>h
 | .int _,_,h=>h
 | .str _,_,h=>h
 | .lst ds,v,h=>by
   unfold Rep at h ⊢
   obtain⟨a,xs,e,l,r⟩:=h
   exact⟨a,xs,e,l.br p,aH.br p r⟩
 | .tup ds,v,h=>by
   unfold Rep at h ⊢
   obtain⟨a,xs,e,l,r⟩:=h
   exact⟨a,xs,e,l.elim (fun z=> .inl ⟨(p.rd z.2 z.1).2,(p.rd z.2 z.1).1⟩) .inr,aH.br p r⟩
 | .dct ks ds,v,h=>by
   unfold Rep at h ⊢
   obtain⟨a,kvs,e,⟨n,l⟩,k,r⟩:=h
   exact⟨a,kvs,e,⟨(p a _ l n).2,(p a _ l n).1⟩,k,aH.br p r⟩
theorem aH.br{K:PySem.W.Frag}{B B':List Addr}{H H':Hp}(p:dR B H B' H'):∀{ds:List D} {xs:List V},aH K B H ds xs→aH K B' H' ds xs
 | [],_,h=>h
 | d ::ds,xs,h=>by
   unfold aH at h ⊢
   obtain⟨x,r,e,h1,h2⟩:=h
   exact⟨x,r,e,Rep.br p h1,aH.br p h2⟩
end
theorem Rep.same{K:PySem.W.Frag}{B:List Addr}{H H':Hp}{d:D}{v:V}(h:Rep K B H d v)(s:aY H H'):Rep K B H' d v:=h.br (dR.same s)
theorem aH.same{K:PySem.W.Frag}{B:List Addr}{H H':Hp}{d:List D}{v:List V}(h:aH K B H d v)(s:aY H H'):aH K B H' d v:=h.br (dR.same s)
theorem aH.nil{K:PySem.W.Frag}{B:List Addr}{H:Hp}:aH K B H [] []:=by unfold aH;rfl
theorem aH.cons{K:PySem.W.Frag}{B:List Addr}{H:Hp}{d:D}{ds:List D}{x:V}{xs:List V}(h:Rep K B H d x)(t:aH K B H ds xs):aH K B H (d ::ds) (x ::xs):=by
 unfold aH;exact⟨x,xs,rfl,h,t⟩
theorem aH.cu{K:PySem.W.Frag}{B:List Addr}{H:Hp}{d:D}{ds:List D}{xs:List V}(h:aH K B H (d ::ds) xs):∃x r,xs=x ::r∧Rep K B H d x∧aH K B H ds r:=by
 unfold aH at h;exact h
theorem aH.length{K:PySem.W.Frag}{B:List Addr}{H:Hp}:∀{ds:List D} {xs:List V},aH K B H ds xs→ds.length=xs.length
 | [],_,h=>by unfold aH at h;rw [h];rfl
 | d ::ds,xs,h=>by
   obtain⟨x,r,rfl,_,h2⟩:=h.cu
   simp [h2.length]
theorem aH.get{K:PySem.W.Frag}{B:List Addr}{H:Hp}:∀{ds:List D} {xs:List V} {i:Nat} {d:D},aH K B H ds xs→ds[i]? =some d→∃x,xs[i]? =some x∧Rep K B H d x
 | [],_,_,_,_,e=>by simp at e
 | d ::ds,xs,0,d',h,e=>by
   obtain⟨x,r,rfl,h1,h2⟩:=h.cu
   simp at e;subst e
   exact⟨x,rfl,h1⟩
 | d ::ds,xs,i+1,d',h,e=>by
   obtain⟨x,r,rfl,h1,h2⟩:=h.cu
   obtain⟨y,e1,e2⟩:=aH.get (i:=i) h2 (by simpa using e)
   exact⟨y,by simpa using e1,e2⟩
theorem aH.append{K:PySem.W.Frag}{B:List Addr}{H:Hp}:∀{ds es:List D} {xs ys:List V},aH K B H ds xs→aH K B H es ys→aH K B H (ds++es) (xs++ys)
 | [],_,_,_,h,t=>by unfold aH at h;subst h;exact t
 | d ::ds,es,xs,ys,h,t=>by
   obtain⟨x,r,rfl,h1,h2⟩:=h.cu
   exact aH.cons h1 (aH.append h2 t)
theorem aH.drop{K:PySem.W.Frag}{B:List Addr}{H:Hp}:∀{ds:List D} {xs:List V} (n:Nat),aH K B H ds xs→aH K B H (ds.drop n) (xs.drop n)
 | _,_,0,h=>h
 | [],_,n+1,h=>by unfold aH at h;subst h;exact aH.nil
 | d ::ds,xs,n+1,h=>by
   obtain⟨x,r,rfl,h1,h2⟩:=h.cu
   exact aH.drop n h2
theorem aH.take{K:PySem.W.Frag}{B:List Addr}{H:Hp}:∀{ds:List D} {xs:List V} (n:Nat),aH K B H ds xs→aH K B H (ds.take n) (xs.take n)
 | _,_,0,h=>aH.nil
 | [],_,n+1,h=>by unfold aH at h;subst h;exact aH.nil
 | d ::ds,xs,n+1,h=>by
   obtain⟨x,r,rfl,h1,h2⟩:=h.cu
   exact aH.cons h1 (aH.take n h2)
noncomputable def D.atom:D→Bool
 | .cI=>true | .bl _=>true | .int _=>true | .str _=>true | _=>false
theorem Rep.atom{K:PySem.W.Frag}{B B':List Addr}{H H':Hp}{d:D}{v:V}(a:d.atom=true)(h:Rep K B H d v):Rep K B' H' d v:=by
 cases d <;> first | exact h | cases a
inductive Sl where
 | un | val (d:D) | bld (ds:List D)
noncomputable abbrev aw:=List Sl
structure dP (K:PySem.W.Frag) (Z B:List Addr) (H:Hp) (σ:St) (δ:aw):Prop where
 len:δ.length=σ.length
 bs:∀a∈B,∃o,H a=some o
 zb:∀a∈Z,a∈B
 val:∀(i:Nat) (d:D),δ[i]? =some (.val d)→∃v,σ[i]? =some (some v)∧Rep K B H d v
 bld:∀(i:Nat) (ds:List D),δ[i]? =some (.bld ds)→∃a xs,σ[i]? =some (some (.ref a))∧a∈B∧a ∉ Z∧H a=some (.lst xs)∧aH K B H ds xs
 dis:∀(i j:Nat) (a:Addr) (ds es:List D),δ[i]? =some (.bld ds)→δ[j]? =some (.bld es)→σ[i]? =some (some (.ref a))→σ[j]? =some (some (.ref a))→i=j
theorem dP.same{K:PySem.W.Frag}{Z B:List Addr}{H H':Hp}{σ:St}{δ:aw}(E:dP K Z B H σ δ)(s:aY H H'):dP K Z B H' σ δ where
 len:=E.len
 bs:=fun a ha=>let⟨o,e⟩:=E.bs a ha;⟨o,s a o e⟩
 zb:=E.zb
 val:=fun i d e=>let⟨v,h1,h2⟩:=E.val i d e;⟨v,h1,h2.same s⟩
 bld:=fun i ds e=>let⟨a,xs,h1,h2,h3,h4,h5⟩:=E.bld i ds e;⟨a,xs,h1,h2,h3,s a _ h4,h5.same s⟩
 dis:=E.dis
noncomputable def kj(δ:aw):aw:=δ.map fun x=>match x with | .bld ds=> .val (.lst ds) | y=>y
theorem dP.kj{K:PySem.W.Frag}{Z B:List Addr}{H:Hp}{σ:St}{δ:aw}(E:dP K Z B H σ δ):dP K [] [] H σ (kj δ) where
 len:=by unfold L2.kj;rw [List.length_map];exact E.len
 bs:=fun a ha=>by cases ha
 zb:=fun a ha=>by cases ha
 val:=fun i d e=>by
  unfold L2.kj at e
  rw[List.getElem?_map] at e
  have p:dR B H [] H:=fun b o e _=>⟨e,by simp⟩
  cases q:δ[i]? with
  | none=>rw [q] at e;cases e
  | some x=>
    rw[q] at e
    cases x with
    | un=>cases e
    | val d'=>cases e;obtain⟨v,h1,h2⟩:=E.val i d q;exact⟨v,h1,h2.br p⟩
    | bld ds=>
      cases e
      obtain⟨a,xs,h1,_,_,h4,h5⟩:=E.bld i ds q
      refine⟨.ref a,h1,?_⟩
      unfold Rep
      exact⟨a,xs,rfl, .inl ⟨by simp, .inl h4⟩,h5.br p⟩
 bld:=fun i ds e=>by
  unfold L2.kj at e
  rw[List.getElem?_map] at e
  cases q:δ[i]? with
  | none=>rw [q] at e;cases e
  | some x=>rw [q] at e;cases x <;> cases e
 dis:=fun i j a ds es e=>by
  unfold L2.kj at e
  rw[List.getElem?_map] at e
  cases q:δ[i]? with
  | none=>rw [q] at e;cases e
  | some x=>rw [q] at e;cases x <;> cases e
theorem PE.imp{X:Cx}{e:Expr}{t t':TE}(h:PE X e t)(w:∀σ H Q,t' σ H Q→t σ H Q):PE X e t':=fun pins s σ H Q I hq=>h pins s σ H Q I (w σ H Q hq)
theorem PT.imp{X:Cx}{e:Expr}{t t':TT}(h:PT X e t)(w:∀σ H Q,t' σ H Q→t σ H Q):PT X e t':=fun pins s σ H Q I hq=>h pins s σ H Q I (w σ H Q hq)
theorem PA.imp{X:Cx}{e:List Expr}{t t':TA}(h:PA X e t)(w:∀σ H Q,t' σ H Q→t σ H Q):PA X e t':=fun pos pins s σ H Q I hq=>h pos pins s σ H Q I (w σ H Q hq)
theorem PS.imp{X:Cx}{e:Stmt}{t t':TS}(h:PS X e t)(w:∀D σ H,t' D σ H→t D σ H):PS X e t':=fun pins s σ H D I hq=>h pins s σ H D I (w D σ H hq)
theorem uc.imp{X:Cx}{e:List Stmt}{t t':TS}(h:uc X e t)(w:∀D σ H,t' D σ H→t D σ H):uc X e t':=fun pins s σ H D I hq=>h pins s σ H D I (w D σ H hq)
theorem PG.imp{X:Cx}{e:Expr}{t t':TG}(h:PG X e t)(w:∀v σ H Q,t' v σ H Q→t v σ H Q):PG X e t':=fun pins s σ H v u Q I r hq=>h pins s σ H v u Q I r (w v σ H Q hq)
theorem PI.imp{X:Cx}{tg e:Expr}{t t':TI}(h:PI X tg e t)(w:∀σ H Q,t' σ H Q→t σ H Q):PI X tg e t':=fun pins s σ H Q I hq=>h pins s σ H Q I (w σ H Q hq)
noncomputable abbrev FD:=aw→R D
noncomputable def tD(K:PySem.W.Frag)(f:FD):TE:=fun σ H Q=>∃Z B δ d,dP K Z B H σ δ∧f δ= .ok d∧∀v H',aY H H'→Rep K B H' d v→Q v H'
noncomputable def tN(K:PySem.W.Frag)(f:aw→R (List D)):TE:=fun σ H Q=>∃Z B δ ds,dP K Z B H σ δ∧f δ= .ok ds∧∀a xs H',aY H H'→H a=none→H' a=some (.lst xs)→aH K (a ::B) H' ds xs→Q (.ref a) H'
noncomputable def Gd(K:PySem.W.Frag)(f:aw→R Bool):TT:=fun σ H Q=>∃Z B δ b,dP K Z B H σ δ∧f δ= .ok b∧∀H',aY H H'→Q b H'
noncomputable def KJ(K:PySem.W.Frag)(f:aw→R (List D)):TA:=fun σ H Q=>∃Z B δ ds,dP K Z B H σ δ∧f δ= .ok ds∧∀vs H',aY H H'→aH K B H' ds vs→Q vs H'
noncomputable abbrev PD(X:Cx)(e:Expr)(f:FD):Prop:=PE X e (tD X.K f)
noncomputable abbrev PN(X:Cx)(e:Expr)(f:aw→R (List D)):Prop:=PE X e (tN X.K f)
noncomputable abbrev PB(X:Cx)(e:Expr)(f:aw→R Bool):Prop:=PT X e (Gd X.K f)
noncomputable abbrev BY(X:Cx)(es:List Expr)(f:aw→R (List D)):Prop:=PA X es (KJ X.K f)
section
variable {X:Cx}
noncomputable def eNew(f:aw→R (List D)):FD:=fun δ=>(f δ).bind fun ds=> .ok (.lst ds)
theorem EF{e:Expr}{f:aw→R (List D)}(h:PN X e f):PD X e (eNew f):=h.imp fun σ H Q ⟨Z,B,δ,d,E,hf,q⟩=>by
 obtain⟨ds,h1,h2⟩:=R.ak hf
 cases h2
 refine⟨Z,B,δ,ds,E,h1,fun a xs H' s n e r=>q _ H' s ?_⟩
 unfold Rep
 refine⟨a,xs,rfl, .inl ⟨fun ha=>?_, .inl e⟩,r.br fun b o e nb=>⟨e,fun hb=>nb (List.mem_cons_of_mem _ hb)⟩⟩
 obtain⟨o,ho⟩:=E.bs a ha
 rw[n] at ho;cases ho
theorem uv{B:List Addr}{H:Hp}{p:Addr}{o:HO}(h:H p=none):dR B H (p ::B) (upd H p o):=fun b u e nb=>
 ⟨by rw[bg (bO e h)];exact e,fun hb=>by
   rcases List.mem_cons.mp hb with z | z
   ·exact bO e h z
   ·exact nb z⟩
noncomputable def jb(f:FD):FD:=fun δ=>(f (kj δ)).bind fun d=>R.bZ d.atom (.ok d)
theorem DQ{e:Expr}{f:FD}(h:PD X e f):PD X e (jb f):=h.imp fun σ H Q ⟨Z,B,δ,d,E,hf,q⟩=>by
 obtain⟨d',h1,h2⟩:=R.ak hf
 obtain⟨ha,h3⟩:=R.bo h2
 cases h3
 exact⟨[],[],L2.kj δ,d,E.kj,h1,fun v H' s r=>q v H' s (r.atom ha)⟩
noncomputable def oM(f:aw→R Bool):aw→R Bool:=fun δ=>f (kj δ)
noncomputable def ag(i:Nat):FD:=fun δ=>match δ[i]? with | some (.val d)=> .ok d | _=> .no
noncomputable def eC(d:D):FD:=fun _=> .ok d
theorem Fb(i:Nat){x:Str}{pos:Pos}(hN:X.N[i]? =some x:=by rfl)(hv:Eg X.env.scope x:=by first | exact Or.inl rfl | exact Or.inr (Or.inl rfl) | exact Or.inr (Or.inr rfl))(hd:(x==("__debug__":Str))=false:=by decide)
 (hcd:(x==("__classdict__":Str))=false:=by decide):PD X (.Name x pos) (ag i):=(sY hN hv hd hcd).imp fun σ H Q ⟨Z,B,δ,d,E,hf,q⟩=>by
 unfold ag at hf
 split at hf
 ·rename_i d' e
  cases hf
  obtain⟨v,h1,h2⟩:=E.val i d e
  exact⟨v,h1,q v H (aY.refl H) h2⟩
 ·cases hf
theorem mR{e:Expr}{v:V}{d:D}(h:PE X e (tC v))(r:∀B H,Rep X.K B H d v):PD X e (eC d):=h.imp fun σ H Q ⟨Z,B,δ,d',E,hf,q⟩=>by
 cases hf
 exact q v H (aY.refl H) (r B H)
theorem FL{i j pos}:PD X (.Constant (.int i) j pos) (eC (.int i)):=mR qD fun _ _=>by unfold Rep;rfl
theorem Iu{b j pos}:PD X (.Constant (.bool b) j pos) (eC (.bl b)):=mR G6 fun _ _=>by unfold Rep;rfl
theorem ER{j pos}:PD X (.Constant .none j pos) (eC .cI):=mR E9 fun _ _=>by unfold Rep;rfl
theorem EU{x j pos}:PD X (.Constant (.str x) j pos) (eC (.str x)):=mR pZ fun _ _=>by unfold Rep;rfl
noncomputable def Glob(K:PySem.W.Frag)(mg:Str→Option Value)(x:Str)(d:D):Prop:=∃(u:Value) (v:V),mg x=some u∧RelV v u∧∀B H,Rep K B H d v
noncomputable def aD:aw→R (List D):=fun _=> .ok []
noncomputable def ao(f:FD)(g:aw→R (List D)):aw→R (List D):=fun δ=>(f δ).bind fun d=>(g δ).bind fun ds=> .ok (d ::ds)
theorem D_:BY X [] aD:=iX.imp fun σ H Q ⟨Z,B,δ,d,E,hf,q⟩=>by
 cases hf
 exact q [] H (aY.refl H) aH.nil
theorem Ap{e:Expr}{es:List Expr}{f:FD}{g:aw→R (List D)}(h:PD X e f)(t:BY X es g)(hs:starEach (e ::es) X.env=(false,eval e X.env) ::starEach es X.env:=by rfl):BY X (e ::es) (ao f g):=
 (fJ h t hs).imp fun σ H Q ⟨Z,B,δ,d,E,hf,q⟩=>by
   obtain⟨d1,h1,h2⟩:=R.ak hf
   obtain⟨ds,h3,h4⟩:=R.ak h2
   cases h4
   exact⟨Z,B,δ,d1,E,h1,fun v H1 s1 r1=>⟨Z,B,δ,ds,E.same s1,h3,fun vs H2 s2 r2=>q _ H2 (s1.trans s2) (aH.cons (r1.same s2) r2)⟩⟩
noncomputable def fA(g:aw→R (List D)):FD:=fun δ=>(g δ).bind fun ds=>R.bZ (decide (ds.length≤sizeLine)) (.ok (.tup ds))
noncomputable def dk(g:aw→R (List D)):aw→R (List D):=fun δ=>(g δ).bind fun ds=>R.bZ (decide (ds.length≤sizeLine)) (.ok ds)
theorem bh{H:Hp}{p:Addr}{o:HO}(h:H p=none):aY H (upd H p o):=fun b u e=>by rw[bg (bO e h)];exact e
theorem Gp{es:List Expr}{g:aw→R (List D)}{x1 pos}(h:BY X es g):PD X (.Tuple es x1 pos) (fA g):=(AF h).imp fun σ H Q ⟨Z,B,δ,d,E,hf,q⟩=>by
 obtain⟨ds,h1,h2⟩:=R.ak hf
 obtain⟨hl,h3⟩:=R.bo h2
 cases h3
 refine⟨Z,B,δ,ds,E,h1,fun vs H1 s1 r1=>⟨by rw[←r1.length];exact of_decide_eq_true hl,fun p hp=>q _ _ (s1.trans (bh hp)) ?_⟩⟩
 unfold Rep
 refine⟨p,vs,rfl, .inl ⟨fun ha=>?_, .inl a_⟩,r1.same (bh hp)⟩
 obtain⟨o,ho⟩:=(E.same s1).bs p ha
 rw[hp] at ho;cases ho
theorem Fi{es:List Expr}{g:aw→R (List D)}{pos}(h:BY X es g):PN X (.List es pos) (dk g):=(zN h).imp fun σ H Q ⟨Z,B,δ,d,E,hf,q⟩=>by
 obtain⟨ds,h1,h2⟩:=R.ak hf
 obtain⟨hl,h3⟩:=R.bo h2
 cases h3
 exact⟨Z,B,δ,_,E,h1,fun vs H1 s1 r1=>⟨by rw[←r1.length];exact of_decide_eq_true hl,fun p hp=>q p vs _ (s1.trans (bh hp)) (s1.free hp) a_ (r1.br (uv hp))⟩⟩
noncomputable def j0(X:Cx)(f:Value→Value→Sem Value)(g:D→D→R D):Prop:=
 ∀(pins:List (Addr × Obj)) (s:Shared) (σ:St) (H:Hp) (B:List Addr) (da db d:D) (x y:V) (v u:Value),Inv X pins σ H s→(∀a∈B,∃o,H a=some o)→RelV x v→RelV y u→Rep X.K B H da x→Rep X.K B H db y→g da db= .ok d→
  wpAny (model X.prog X.w) X.A (f v u) (EP X pins σ fun z H'=>aY H H'∧Rep X.K B H' d z) X.xe s
noncomputable def e2(g:D→D→R D)(fa fb:FD):FD:=fun δ=>(fa δ).bind fun a=>(fb δ).bind fun b=>g a b
theorem j0.r{f:Value→Value→Sem Value}{g:D→D→R D}(h:j0 X f g):kM X f (fun x y H Q=>∃B da db d,(∀a∈B,∃o,H a=some o)∧Rep X.K B H da x∧Rep X.K B H db y∧g da db= .ok d∧∀z H',aY H H'→Rep X.K B H' d z→Q z H'):=by
 intro pins s σ H x y v u Q I rx ry ⟨B,da,db,d,hb,ha,hb',hg,q⟩
 exact dQ (h pins s σ H B da db d x y v u I hb rx ry ha hb' hg) fun z s' ⟨zv,H',I',r',s1,r1⟩=>⟨zv,H',I',r',q zv H' s1 r1⟩
theorem Fw{K:PySem.W.Frag}{g:D→D→R D}{fa fb:FD}{σ:St}{H:Hp}{Q:VK}(h:tD K (e2 g fa fb) σ H Q) :
 G3 (fun x y H Q=>∃B da db d,(∀a∈B,∃o,H a=some o)∧Rep K B H da x∧Rep K B H db y∧g da db= .ok d∧∀z H',aY H H'→Rep K B H' d z→Q z H') (tD K fa) (tD K fb) σ H Q:=by
 obtain⟨Z,B,δ,d,E,hf,q⟩:=h
 obtain⟨d1,h1,h2⟩:=R.ak hf
 obtain⟨d2,h3,h4⟩:=R.ak h2
 exact⟨Z,B,δ,d1,E,h1,fun v1 H1 s1 r1=>⟨Z,B,δ,d2,E.same s1,h3,fun v2 H2 s2 r2=>⟨B,d1,d2,d,(E.same (s1.trans s2)).bs,r1.same s2,r2,h4,fun z H' s3 r3=>q z H' (s1.trans (s2.trans s3)) r3⟩⟩⟩
theorem HY{op:Operator}{g:D→D→R D}{a b:Expr}{fa fb:FD}{pos:Pos}(ho:j0 X (binaryOp op) g)(ha:PD X a fa)(hb:PD X b fb):PD X (.BinOp a op b pos) (e2 g fa fb):=
 (x3 ho.r ha hb).imp fun σ H Q h=>Fw h
theorem Gs{op:CmpOp}{g:D→D→R D}{a b:Expr}{fa fb:FD}{pos:Pos}(ho:j0 X (compareOp op) g)(ha:PD X a fa)(hb:PD X b fb)(hm:behindInMarks op b=false):PD X (.Compare a [op] [b] pos) (e2 g fa fb):=
 (x_ ho.r ha hb hm).imp fun σ H Q h=>Fw h
noncomputable def b2(g:D→D→R D)(fa fb:FD):aw→R Bool:=fun δ=>(e2 g fa fb δ).bind fun d=>match d with | .bl b=> .ok b | _=> .no
theorem GH{op:CmpOp}{g:D→D→R D}{a b:Expr}{fa fb:FD}{pos:Pos}(ho:j0 X (compareOp op) g)(ha:PD X a fa)(hb:PD X b fb)(hm:behindInMarks op b=false):PB X (.Compare a [op] [b] pos) (b2 g fa fb):=
 (xZ ho.r ha hb hm).imp fun σ H Q ⟨Z,B,δ,b,E,hf,q⟩=>by
   obtain⟨d,h1,h2⟩:=R.ak hf
   cases d with
   | bl k=>
     cases h2
     exact Fw (g:=g) (Q:=fun x H'=>∃k,x= .bl k∧Q k H') ⟨Z,B,δ, .bl b,E,h1,fun v H' s r=>⟨b,by unfold Rep at r;exact r,q H' s⟩⟩
   | _=>cases h2
noncomputable def Jj(g g':D→D→R D)(fa fb fc:FD):FD:=fun δ=>(fa δ).bind fun a=>(fb δ).bind fun b=>(g a b).bind fun r=>match r with
 | .bl true=>(fc δ).bind fun c=>g' b c
 | .bl false=> .ok (.bl false)
 | _=> .no
noncomputable def qy:D→R Bool
 | .cI=> .ok false
 | .bl b=> .ok b
 | .int i=> .ok (i !=0)
 | .str x=>R.bZ (decide (x.length≤sizeLine)) (.ok ((x.length:Int) !=0))
 | .lst ds=> .ok (!ds.isEmpty)
 | .tup ds=> .ok (!ds.isEmpty)
 | .dct _ _=> .no
noncomputable def gb(f:FD):aw→R Bool:=fun δ=>(f δ).bind qy
theorem aH.isEmpty{K:PySem.W.Frag}{B:List Addr}{H:Hp}{ds:List D}{xs:List V}(h:aH K B H ds xs):ds.isEmpty=xs.isEmpty:=by
 have:=h.length
 cases ds <;> cases xs <;> simp_all
theorem Fh{K:PySem.W.Frag}{B:List Addr}{H:Hp}{d:D}{v:V}{b:Bool}(r:Rep K B H d v)(h:qy d= .ok b):Gm K v H b:=by
 cases d with
 | cI=>unfold Rep at r;subst r;cases h;exact rfl
 | bl k=>unfold Rep at r;subst r;cases h;exact rfl
 | int i=>unfold Rep at r;subst r;cases h;exact rfl
 | str x=>unfold Rep at r;subst r;obtain⟨h1,h2⟩:=R.bo h;cases h2;exact⟨of_decide_eq_true h1,rfl⟩
 | lst ds=>unfold Rep at r;obtain⟨a,xs,rfl,l,r⟩:=r;cases h;exact .inl ⟨xs,l.sq,by rw[r.isEmpty]⟩
 | tup ds=>unfold Rep at r;obtain⟨a,xs,rfl,l,r⟩:=r;cases h;exact .inr (.inl ⟨xs,l.sq,by rw[r.isEmpty]⟩)
 | dct _ _=>cases h
theorem GJ{a:Expr}{f:FD}(ha:PD X a f)(he:∀whole,isTrue a X.env whole=(do let v ←whole;standAt a.pos;holding [v] (truthy v)):=by intro _;rfl):PB X a (gb f):=
 (BQ ha he).imp fun σ H Q ⟨Z,B,δ,b,E,hf,q⟩=>by
   obtain⟨d,h1,h2⟩:=R.ak hf
   exact⟨Z,B,δ,d,E,h1,fun v H' s r=>⟨b,Fh r h2,q H' s⟩⟩
noncomputable def lL(f g:aw→R Bool):aw→R Bool:=fun δ=>(f δ).bind fun b=>if b then g δ else .ok false
noncomputable def so(f g:aw→R Bool):aw→R Bool:=fun δ=>(f δ).bind fun b=>if b then .ok true else g δ
noncomputable def ia(f:aw→R Bool):aw→R Bool:=fun δ=>(f δ).bind fun b=> .ok (!b)
noncomputable def Cn(X:Cx)(e:Expr)(f:aw→R Bool):Prop:=PW X e (Gd X.K f)
theorem Cn.pb{e:Expr}{f:aw→R Bool}(h:Cn X e f):PB X e f:=PW.pt h
theorem Bs{a:Expr}{f:aw→R Bool}{pos:Pos}(h:PB X a f):Cn X (.BoolOp .And [a] pos) f:=xR h
theorem Cy{a:Expr}{f:aw→R Bool}{pos:Pos}(h:PB X a f):Cn X (.BoolOp .Or [a] pos) f:=EX h
theorem CZ{a b:Expr}{rest:List Expr}{f g:aw→R Bool}{pos:Pos}(ha:PB X a f)(hb:Cn X (.BoolOp .And (b ::rest) pos) g):Cn X (.BoolOp .And (a ::b ::rest) pos) (lL f g):=by
 intro wh pins s σ H Q I ⟨Z,B,δ,k,E,hf,q⟩
 refine BJ ha hb wh pins s σ H Q I ?_
 obtain⟨c,h1,h2⟩:=R.ak hf
 refine⟨Z,B,δ,c,E,h1,fun H1 s1=>?_⟩
 cases c with
 | true=>rw [if_pos rfl] at h2 ⊢;exact⟨Z,B,δ,k,E.same s1,h2,fun H' s2=>q H' (s1.trans s2)⟩
 | false=>rw [if_neg (by decide)] at h2 ⊢;cases h2;exact q H1 s1
theorem GG{a b:Expr}{rest:List Expr}{f g:aw→R Bool}{pos:Pos}(ha:PB X a f)(hb:Cn X (.BoolOp .Or (b ::rest) pos) g):Cn X (.BoolOp .Or (a ::b ::rest) pos) (so f g):=by
 intro wh pins s σ H Q I ⟨Z,B,δ,k,E,hf,q⟩
 refine He ha hb wh pins s σ H Q I ?_
 obtain⟨c,h1,h2⟩:=R.ak hf
 refine⟨Z,B,δ,c,E,h1,fun H1 s1=>?_⟩
 cases c with
 | true=>rw [if_pos rfl] at h2 ⊢;cases h2;exact q H1 s1
 | false=>rw [if_neg (by decide)] at h2 ⊢;exact⟨Z,B,δ,k,E.same s1,h2,fun H' s2=>q H' (s1.trans s2)⟩
theorem GD{a:Expr}{f:aw→R Bool}{pos:Pos}(ha:PB X a f):PB X (.UnaryOp .Not a pos) (ia f):=(FP ha).imp fun σ H Q ⟨Z,B,δ,k,E,hf,q⟩=>by
 obtain⟨c,h1,h2⟩:=R.ak hf
 cases h2
 exact⟨Z,B,δ,c,E,h1,fun H1 s1=>q H1 s1⟩
noncomputable def zH(f:FD):aw→R Bool:=fun δ=>(f δ).bind fun d=>match d with | .bl b=> .ok b | _=> .no
noncomputable def nq(f g:FD):FD:=fun δ=>(zH f δ).bind fun b=>if b then g δ else .ok (.bl false)
noncomputable def Ex(f g:FD):FD:=fun δ=>(zH f δ).bind fun b=>if b then .ok (.bl true) else g δ
noncomputable def qE(f:FD):FD:=fun δ=>(zH f δ).bind fun b=> .ok (.bl (!b))
theorem Bq{f:FD}{δ:aw}{b:Bool}(h:zH f δ= .ok b):f δ= .ok (.bl b):=by
 obtain⟨d,h1,h2⟩:=R.ak h
 cases d with
 | bl k=>cases h2;exact h1
 | _=>cases h2
theorem EY{a:Expr}{op}{f:FD}{pos:Pos}(h:PD X a f):PD X (.BoolOp op [a] pos) f:=z7 h
theorem Ff{a b:Expr}{rest:List Expr}{f g:FD}{pos:Pos}(ha:PD X a f)(hb:PD X (.BoolOp .And (b ::rest) pos) g):PD X (.BoolOp .And (a ::b ::rest) pos) (nq f g):=(AA ha hb).imp fun σ H Q ⟨Z,B,δ,k,E,hf,q⟩=>by
 obtain⟨c,h1,h2⟩:=R.ak hf
 refine⟨Z,B,δ, .bl c,E,Bq h1,fun v H1 s1 r1=>⟨c,by unfold Rep at r1;exact r1,?_⟩⟩
 cases c with
 | true=>rw [if_pos rfl] at h2 ⊢;exact⟨Z,B,δ,k,E.same s1,h2,fun v H' s2 r2=>q v H' (s1.trans s2) r2⟩
 | false=>rw [if_neg (by decide)] at h2 ⊢;cases h2;exact q _ H1 s1 (by unfold Rep;rfl)
theorem Gj{a:Expr}{f:FD}{pos:Pos}(ha:PD X a f):PD X (.UnaryOp .Not a pos) (qE f):=(FH ha).imp fun σ H Q ⟨Z,B,δ,k,E,hf,q⟩=>by
 obtain⟨c,h1,h2⟩:=R.ak hf
 cases h2
 exact⟨Z,B,δ, .bl c,E,Bq h1,fun v H1 s1 r1=>⟨c,by unfold Rep at r1;exact r1,q _ H1 s1 (by unfold Rep;rfl)⟩⟩
noncomputable def w_(c:aw→R Bool)(f g:FD):FD:=fun δ=>(c δ).bind fun b=>if b then f δ else g δ
theorem Il{c a b:Expr}{fc:aw→R Bool}{f g:FD}{pos:Pos}(hc:PB X c fc)(ha:PD X a f)(hb:PD X b g):PD X (.IfExp c a b pos) (w_ fc f g):=(AN hc ha hb).imp fun σ H Q ⟨Z,B,δ,k,E,hf,q⟩=>by
 obtain⟨c,h1,h2⟩:=R.ak hf
 refine⟨Z,B,δ,c,E,h1,fun H1 s1=>?_⟩
 cases c with
 | true=>rw [if_pos rfl] at h2 ⊢;exact⟨Z,B,δ,k,E.same s1,h2,fun v H' s2 r2=>q v H' (s1.trans s2) r2⟩
 | false=>rw [if_neg (by decide)] at h2 ⊢;exact⟨Z,B,δ,k,E.same s1,h2,fun v H' s2 r2=>q v H' (s1.trans s2) r2⟩
noncomputable def cT(X:Cx)(f:Value)(g:List D→R D):Prop:=
 ∀(pins:List (Addr × Obj)) (s:Shared) (σ:St) (H:Hp) (B:List Addr) (ds:List D) (d:D) (xs:List V) (us:List Value),Inv X pins σ H s→(∀a∈B,∃o,H a=some o)→Vals xs us→aH X.K B H ds xs→g ds= .ok d→
  wpAny (model X.prog X.w) X.A (call f us) (EP X pins σ fun z H'=>aY H H'∧Rep X.K B H' d z) X.xe s
noncomputable def aA(g:List D→R D)(fs:aw→R (List D)):FD:=fun δ=>(fs δ).bind g
theorem cT.r{f:Value}{g:List D→R D}(h:cT X f g):jU X f (fun xs H Q=>∃B ds d,(∀a∈B,∃o,H a=some o)∧aH X.K B H ds xs∧g ds= .ok d∧∀z H',aY H H'→Rep X.K B H' d z→Q z H'):=by
 intro pins s σ H xs us Q I rx ⟨B,ds,d,hb,hr,hg,q⟩
 exact dQ (h pins s σ H B ds d xs us I hb rx hr hg) fun z s' ⟨zv,H',I',r',s1,r1⟩=>⟨zv,H',I',r',q zv H' s1 r1⟩
theorem yx{K:PySem.W.Frag}{g:List D→R D}{fs:aw→R (List D)}{σ:St}{H:Hp}{Q:VK}(h:tD K (aA g fs) σ H Q) :
 KJ K fs σ H fun vs H1=>∃B ds d,(∀a∈B,∃o,H1 a=some o)∧aH K B H1 ds vs∧g ds= .ok d∧∀z H',aY H1 H'→Rep K B H' d z→Q z H':=by
 obtain⟨Z,B,δ,d,E,hf,q⟩:=h
 obtain⟨ds,h1,h2⟩:=R.ak hf
 exact⟨Z,B,δ,ds,E,h1,fun vs H1 s1 r1=>⟨B,ds,d,(E.same s1).bs,r1,h2,fun z H' s2 r2=>q z H' (s1.trans s2) r2⟩⟩
theorem BI{g:List D→R D}{x:Str}{id:String}{p pos:Pos}{e:Expr}{es:List Expr}{fs:aw→R (List D)}(hc:cT X (.builtin id) g)(hg:Gl X x)(hm:X.mg x=none)(hv:bootBuiltins x=some (.builtin id))(ha:BY X (e ::es) fs)(hn:x≠"__name__":=by decide)(hdb:(x==("__debug__":Str))=false:=by decide)
 (he:starEach (e ::es) X.env=(false,eval e X.env) ::starEach es X.env:=by rfl) (hpl:(backTo pos (starEach es X.env)).any (·.1)=false:=by rfl):PD X (.Call (.Name x p) (e ::es) [] pos) (aA g fs):=
 (qv hc.r hg hm hv ha hn hdb he hpl).imp fun σ H Q h=>yx h
theorem zu{g:List D→R D}{x:Str}{T:String}{p pos:Pos}{e:Expr}{es:List Expr}{fs:aw→R (List D)}(hc:cT X (.type T) g)(hg:Gl X x)(hm:X.mg x=none)(hv:bootBuiltins x=some (.type T))(ha:BY X (e ::es) fs)(hn:x≠"__name__":=by decide)(hdb:(x==("__debug__":Str))=false:=by decide)
 (he:starEach (e ::es) X.env=(false,eval e X.env) ::starEach es X.env:=by rfl) (hpl:(backTo pos (starEach es X.env)).any (·.1)=false:=by rfl):PD X (.Call (.Name x p) (e ::es) [] pos) (aA g fs):=
 (zx hc.r hg hm hv ha hn hdb he hpl).imp fun σ H Q h=>yx h
noncomputable def yD(K:PySem.W.Frag)(n:Nat)(g:List D→R D):Sp:=fun vs H Q _=>vs.length=n∧∃B ds d,(∀a∈B,∃o,H a=some o)∧aH K B H ds vs∧g ds= .ok d∧∀z H',aY H H'→Rep K B H' d z→Q z H'
theorem Cz{g:List D→R D}{k n:Nat}{f:Addr}{fd:FuncData}{ps:List Str}{x:Str}{p pos:Pos}{e:Expr}{es:List Expr}{fs:aw→R (List D)}
 (F:hJ X.prog X.w X.K X.mg X.base rh k f fd ps (yD X.K n g)) (hr:d8 k X.A) (hg:Gl X x) (hm:X.mg x=some (.ref f)) (hk:PySem.W.keepIn X.K (.ref f)=true) (hb:Binds X.K fd ps []) (ha:BY X (e ::es) fs)
 (hn:∀δ ds,fs δ= .ok ds→ds.length=n) (hdb:(x==("__debug__":Str))=false:=by decide) (he:starEach (e ::es) X.env=(false,eval e X.env) ::starEach es X.env:=by rfl) (hpl:(backTo pos (starEach es X.env)).any (·.1)=false:=by rfl) :
 PD X (.Call (.Name x p) (e ::es) [] pos) (aA g fs):=
 (pA F hr hg hm hk hb .nil pV ha hdb he hpl).imp fun σ H Q ⟨Z,B,δ,d,E,hf,q⟩=>by
   obtain⟨ds,h1,h2⟩:=R.ak hf
   refine⟨Z,B,δ,ds,E,h1,fun vs H1 s1 r1=>?_⟩
   show yD X.K n g (vs++[]) H1 Q E0
   rw[List.append_nil]
   exact⟨by rw[←r1.length];exact hn δ ds h1,B,ds,d,(E.same s1).bs,r1,h2,fun z H' s2 r2=>q z H' (s1.trans s2) r2⟩
end
end L2
end
section
set_option maxRecDepth 100000
set_option maxHeartbeats 4000000
namespace L2
open PySem PySem.Spec PyProof.Rows
inductive Out where
 | nx (δ:aw) | rt (d:D)
noncomputable abbrev FS:=aw→R Out
structure Ev (Z B:List Addr) (H:Hp) (B':List Addr) (H':Hp):Prop where
 br:dR B H B' H'
 zs:∀b o,H b=some o→b∈Z→H' b=some o∧b∈B'
theorem Ev.refl(Z B:List Addr)(H:Hp)(zb:∀a∈Z,a∈B):Ev Z B H B H:=⟨dR.refl B H,fun b o e z=>⟨e,zb b z⟩⟩
theorem Ev.trans{Z B B' B'':List Addr}{H H' H'':Hp}(a:Ev Z B H B' H')(b:Ev Z B' H' B'' H''):Ev Z B H B'' H'':=
 ⟨a.br.trans b.br,fun c o e z=>let⟨e1,_⟩:=a.zs c o e z;b.zs c o e1 z⟩
theorem Ev.same{Z B:List Addr}{H H':Hp}(zb:∀a∈Z,a∈B)(s:aY H H'):Ev Z B H B H':=⟨dR.same s,fun b o e z=>⟨s b o e,zb b z⟩⟩
noncomputable def xQ(K:PySem.W.Frag)(Z B:List Addr)(H:Hp)(D:Ends):Out→Prop
 | .nx δ'=>∀σ' B' H',Ev Z B H B' H'→dP K Z B' H' σ' δ'→D.nx σ' H'
 | .rt d=>∀v B' H',Ev Z B H B' H'→(∀a∈Z,a∈B')→Rep K B' H' d v→D.rt v H'
theorem xQ.ev{K:PySem.W.Frag}{Z B B1:List Addr}{H H1:Hp}{D:Ends}{o:Out}(q:xQ K Z B H D o)(ev:Ev Z B H B1 H1):xQ K Z B1 H1 D o:=by
 cases o with
 | nx δ'=>exact fun σ' B' H' ev' E'=>q σ' B' H' (ev.trans ev') E'
 | rt d=>exact fun v B' H' ev' z r=>q v B' H' (ev.trans ev') z r
noncomputable def sD(K:PySem.W.Frag)(F:FS):TS:=fun D σ H=>∃Z B δ o,dP K Z B H σ δ∧F δ= .ok o∧xQ K Z B H D o
noncomputable abbrev Ck(X:Cx)(st:Stmt)(F:FS):Prop:=PS X st (sD X.K F)
noncomputable abbrev o_(X:Cx)(st:List Stmt)(F:FS):Prop:=uc X st (sD X.K F)
section
variable {X:Cx}
noncomputable def eA:FS:=fun δ=> .ok (.nx δ)
noncomputable def cQ(F G:FS):FS:=fun δ=>(F δ).bind fun o=>match o with | .nx δ'=>G δ' | .rt d=> .ok (.rt d)
theorem D7:o_ X [] eA:=xW.imp fun D σ H ⟨Z,B,δ,o,E,hf,q⟩=>by
 cases hf
 exact q σ B H (Ev.refl Z B H E.zb) E
theorem Ft{K:PySem.W.Frag}{F G:FS}{D:Ends}{σ:St}{H:Hp}(h:sD K (cQ F G) D σ H):Ic (sD K F) (sD K G) D σ H:=by
 obtain⟨Z,B,δ,o,E,hf,q⟩:=h
 obtain⟨o1,h1,h2⟩:=R.ak hf
 refine⟨Z,B,δ,o1,E,h1,?_⟩
 cases o1 with
 | nx δ1=>
   intro σ1 B1 H1 ev E1
   refine⟨Z,B1,δ1,o,E1,h2,?_⟩
   cases o with
   | nx δ2=>exact fun σ' B' H' ev' E'=>q σ' B' H' (ev.trans ev') E'
   | rt d=>exact fun v B' H' ev' z r=>q v B' H' (ev.trans ev') z r
 | rt d=>
   cases h2
   exact q
theorem BR{st:Stmt}{rest:List Stmt}{F G:FS}(h1:Ck X st F)(h2:o_ X rest G):o_ X (st ::rest) (cQ F G):=(vg h1 h2).imp fun D σ H h=>Ft h
theorem Di{st:Stmt}{F:FS}(h1:Ck X st F):o_ X [st] F:=yp h1
theorem dP.set{K:PySem.W.Frag}{Z B:List Addr}{H:Hp}{σ:St}{δ:aw}(E:dP K Z B H σ δ){i:Nat}{d:D}{v:V}(hi:i < σ.length)(r:Rep K B H d v):dP K Z B H (σ.set i (some v)) (δ.set i (.val d)) where
 len:=by rw[List.length_set,List.length_set];exact E.len
 bs:=E.bs
 zb:=E.zb
 val:=fun j d' e=>by
  by_cases h:i=j
  ·subst h
   rw[List.getElem?_set_self (by rw[E.len];exact hi)] at e
   cases e
   exact⟨v,List.getElem?_set_self hi,r⟩
  ·rw[List.getElem?_set_ne h] at e ⊢
   exact E.val j d' e
 bld:=fun j ds e=>by
  by_cases h:i=j
  ·subst h
   rw[List.getElem?_set_self (by rw[E.len];exact hi)] at e
   cases e
  ·rw[List.getElem?_set_ne h] at e ⊢
   exact E.bld j ds e
 dis:=fun j k a ds es e1 e2 e3 e4=>by
  by_cases h:i=j
  ·subst h
   rw[List.getElem?_set_self (by rw[E.len];exact hi)] at e1
   cases e1
  ·by_cases h':i=k
   ·subst h'
    rw[List.getElem?_set_self (by rw[E.len];exact hi)] at e2
    cases e2
   ·rw[List.getElem?_set_ne h] at e1 e3
    rw[List.getElem?_set_ne h'] at e2 e4
    exact E.dis j k a ds es e1 e2 e3 e4
theorem dP.setB{K:PySem.W.Frag}{Z B:List Addr}{H:Hp}{σ:St}{δ:aw}(E:dP K Z B H σ δ){i:Nat}{ds:List D}{a:Addr}{xs:List V}(hi:i < σ.length)(hB:a∈B)(hZ:a ∉ Z)(hH:H a=some (.lst xs))(r:aH K B H ds xs)
 (new:∀j es,j≠i→δ[j]? =some (.bld es)→σ[j]?≠some (some (.ref a))):dP K Z B H (σ.set i (some (.ref a))) (δ.set i (.bld ds)) where
 len:=by rw[List.length_set,List.length_set];exact E.len
 bs:=E.bs
 zb:=E.zb
 val:=fun j d' e=>by
  by_cases h:i=j
  ·subst h
   rw[List.getElem?_set_self (by rw[E.len];exact hi)] at e
   cases e
  ·rw[List.getElem?_set_ne h] at e ⊢
   exact E.val j d' e
 bld:=fun j es e=>by
  by_cases h:i=j
  ·subst h
   rw[List.getElem?_set_self (by rw[E.len];exact hi)] at e
   cases e
   exact⟨a,xs,List.getElem?_set_self hi,hB,hZ,hH,r⟩
  ·rw[List.getElem?_set_ne h] at e ⊢
   exact E.bld j es e
 dis:=fun j k b ds1 es1 e1 e2 e3 e4=>by
  by_cases h:i=j
  ·subst h
   by_cases h':i=k
   ·exact h'
   ·rw[List.getElem?_set_self hi] at e3
    cases e3
    rw[List.getElem?_set_ne h'] at e2 e4
    exact absurd e4 (new k es1 (Ne.symm h') e2)
  ·by_cases h':i=k
   ·subst h'
    rw[List.getElem?_set_self hi] at e4
    cases e4
    rw[List.getElem?_set_ne h] at e1 e3
    exact absurd e3 (new j ds1 (Ne.symm h) e1)
   ·rw[List.getElem?_set_ne h] at e1 e3
    rw[List.getElem?_set_ne h'] at e2 e4
    exact E.dis j k b ds1 es1 e1 e2 e3 e4
noncomputable def i3(i:Nat)(f:FD):FS:=fun δ=>(f δ).bind fun d=>R.bZ (decide (i < δ.length)) (.ok (.nx (δ.set i (.val d))))
theorem Fj{K:PySem.W.Frag}{i:Nat}{f:FD}{D:Ends}{σ:St}{H:Hp}(h:sD K (i3 i f) D σ H):zg (tD K f) (qd i) D σ H:=by
 obtain⟨Z,B,δ,o,E,hf,q⟩:=h
 obtain⟨d,h1,h2⟩:=R.ak hf
 obtain⟨hi,h3⟩:=R.bo h2
 cases h3
 refine⟨Z,B,δ,d,E,h1,fun v H1 s1 r1=>?_⟩
 exact q _ B H1 (Ev.same E.zb s1) ((E.same s1).set (by rw[←E.len];exact of_decide_eq_true hi) r1)
theorem Dz{i:Nat}{x:Str}{e:Expr}{f:FD}{pos pos':Pos}(hN:X.N.Nodup)(hi:X.N[i]? =some x)(hx:Loc X.env.scope x)(he:PD X e f)(hs:swapsWith e (some (.Name x pos')) pos.line X.env=pure false:=by rfl)(hf:X.fn x=true∨X.env.scope.names.lookup x=some .local:=by first | exact .inl rfl | exact .inr rfl | assumption) :
 Ck X (.Assign [.Name x pos'] e pos) (i3 i f):=(wL hN hi hx he hs hf).imp fun D σ H h=>Fj h
noncomputable def ph(i:Nat)(f:aw→R (List D)):FS:=fun δ=>(f δ).bind fun ds=>R.bZ (decide (i < δ.length)) (.ok (.nx (δ.set i (.bld ds))))
theorem F0{K:PySem.W.Frag}{i:Nat}{f:aw→R (List D)}{D:Ends}{σ:St}{H:Hp}(h:sD K (ph i f) D σ H):zg (tN K f) (qd i) D σ H:=by
 obtain⟨Z,B,δ,o,E,hf,q⟩:=h
 obtain⟨ds,h1,h2⟩:=R.ak hf
 obtain⟨hi,h3⟩:=R.bo h2
 cases h3
 refine⟨Z,B,δ,ds,E,h1,fun a xs H1 s1 n e r=>?_⟩
 have E1:=E.same s1
 have aB:a ∉ B:=fun ha=>by obtain⟨o,ho⟩:=E.bs a ha;rw [n] at ho;cases ho
 have nZ:a ∉ Z:=fun ha=>aB (E.zb a ha)
 have p0:dR B H (a ::B) H1:=fun b o e' nb=>⟨s1 b o e',fun hb=>by
  rcases List.mem_cons.mp hb with z | z
  ·subst z;rw [n] at e';cases e'
  ·exact nb z⟩
 have E2:dP K Z (a ::B) H1 σ δ:={
  len:=E.len
  bs:=fun b hb=>by
   rcases List.mem_cons.mp hb with z | z
   ·subst z;exact⟨_,e⟩
   ·exact E1.bs b z
  zb:=fun b hb=>List.mem_cons_of_mem _ (E.zb b hb)
  val:=fun j d e=>let⟨v,q1,q2⟩:=E.val j d e;⟨v,q1,q2.br p0⟩
  bld:=fun j es e=>let⟨b,ys,q1,q2,q3,q4,q5⟩:=E.bld j es e;⟨b,ys,q1,List.mem_cons_of_mem _ q2,q3,s1 b _ q4,q5.br p0⟩
  dis:=E.dis}
 refine q _ (a ::B) H1 ⟨p0,fun b o e' hb=>⟨s1 b o e',List.mem_cons_of_mem _ (E.zb b hb)⟩⟩ (E2.setB (by rw[←E.len];exact of_decide_eq_true hi) List.mem_cons_self nZ e r fun j es hj ej hσ=>?_)
 obtain⟨b,ys,q1,_,_,q4,_⟩:=E.bld j es ej
 rw[hσ] at q1
 cases q1
 rw[n] at q4;cases q4
theorem DG{i:Nat}{x:Str}{e:Expr}{f:aw→R (List D)}{pos pos':Pos}(hN:X.N.Nodup)(hi:X.N[i]? =some x)(hx:Loc X.env.scope x)(he:PN X e f)(hs:swapsWith e (some (.Name x pos')) pos.line X.env=pure false:=by rfl)(hf:X.fn x=true∨X.env.scope.names.lookup x=some .local:=by first | exact .inl rfl | exact .inr rfl | assumption) :
 Ck X (.Assign [.Name x pos'] e pos) (ph i f):=(wL hN hi hx he hs hf).imp fun D σ H h=>F0 h
theorem dP.grow{K:PySem.W.Frag}{Z B:List Addr}{H:Hp}{σ:St}{δ:aw}(E:dP K Z B H σ δ){i:Nat}{ds es:List D}{a:Addr}{xs ys:List V}(hd:δ[i]? =some (.bld ds))(hσ:σ[i]? =some (some (.ref a)))(hB:a∈B)(hH:H a=some (.lst xs))(r:aH K B H es ys) :
 dP K Z B (upd H a (.lst ys)) σ (δ.set i (.bld es))∧dR B H B (upd H a (.lst ys)):=by
 have p:dR B H B (upd H a (.lst ys)):=fun b o e nb=>⟨by rw[bg (fun(z:b=a)=>nb (by rw[z];exact hB))];exact e,nb⟩
 have hi:i < δ.length:=(List.getElem?_eq_some_iff.mp hd).1
 refine⟨{
  len:=by rw[List.length_set];exact E.len
  bs:=fun b hb=>by
   by_cases z:b=a
   ·subst z;exact⟨_,a_⟩
   ·rw[bg z];exact E.bs b hb
  zb:=E.zb
  val:=fun j d e=>by
   by_cases h:i=j
   ·subst h;rw [List.getElem?_set_self hi] at e;cases e
   ·rw[List.getElem?_set_ne h] at e
    obtain⟨v,q1,q2⟩:=E.val j d e
    exact⟨v,q1,q2.br p⟩
  bld:=fun j fs e=>by
   by_cases h:i=j
   ·subst h;rw [List.getElem?_set_self hi] at e;cases e
    obtain⟨b,zs,q1,q2,q3,_,_⟩:=E.bld i ds hd
    rw[hσ] at q1;cases q1
    exact⟨a,ys,hσ,hB,q3,a_,r.br p⟩
   ·rw[List.getElem?_set_ne h] at e
    obtain⟨b,zs,q1,q2,q3,q4,q5⟩:=E.bld j fs e
    have ne:b≠a:=fun z=>by subst z;exact h (E.dis i j b ds fs hd e hσ q1)
    exact⟨b,zs,q1,q2,q3,by rw[bg ne];exact q4,q5.br p⟩
  dis:=fun j k b ds1 es1 e1 e2 e3 e4=>by
   have f1:∃fs,δ[j]? =some (.bld fs):=by
    by_cases h:i=j
    ·subst h;exact⟨ds,hd⟩
    ·rw[List.getElem?_set_ne h] at e1;exact⟨_,e1⟩
   have f2:∃fs,δ[k]? =some (.bld fs):=by
    by_cases h:i=k
    ·subst h;exact⟨ds,hd⟩
    ·rw[List.getElem?_set_ne h] at e2;exact⟨_,e2⟩
   obtain⟨_,f1⟩:=f1
   obtain⟨_,f2⟩:=f2
   exact E.dis j k b _ _ f1 f2 e3 e4},p⟩
theorem Ev.grow{Z B:List Addr}{H:Hp}{a:Addr}{o:HO}(zb:∀a∈Z,a∈B)(hZ:a ∉ Z)(p:dR B H B (upd H a o)):Ev Z B H B (upd H a o):=
 ⟨p,fun b u e hb=>⟨by rw[bg (fun(z:b=a)=>hZ (by rw[←z];exact hb))];exact e,zb b hb⟩⟩
noncomputable def jr(δ:aw)(i:Nat):R (List D):=match δ[i]? with | some (.bld ds)=> .ok ds | _=> .no
theorem Bw{δ:aw}{i:Nat}{ds:List D}(h:jr δ i= .ok ds):δ[i]? =some (.bld ds):=by
 unfold jr at h
 split at h
 ·rename_i q;cases h;exact q
 ·cases h
noncomputable def nu(i:Nat)(f:FD):FS:=fun δ=>(f δ).bind fun d=>(jr δ i).bind fun ds=>R.bZ (decide (ds.length < sizeLine)) (.ok (.nx (δ.set i (.bld (ds++[d])))))
theorem CP{i:Nat}{x:Str}{e:Expr}{f:FD}{npos apos cpos pos:Pos}(hN:X.N[i]? =some x)(hv:Eg X.env.scope x)(he:PD X e f)
 (hd:(x==("__debug__":Str))=false:=by decide) (hcd:(x==("__classdict__":Str))=false:=by decide)
 (hs:starEach [e] X.env=(false,eval e X.env) ::starEach [] X.env:=by rfl) (hline:(apos.endLine==cpos.line)=true:=by rfl)
 (hfew:((backTo cpos (starEach [e] X.env)).all (fun x=>!x.1) && (backToKw cpos (keywordEach [] X.env)).all (fun x=>x.1.isSome)
   && decide (([e]:List Expr).length+([]:List Keyword).length+(if([]:List Keyword).isEmpty then 0 else 1) < 30))=true:=by rfl)
 (hsw:swapsWith (.Call (.Attribute (.Name x npos) "append" apos) [e] [] cpos) none pos.line X.env=pure false:=by rfl)
 (hbase:attributeBase (.Name x npos) "append" X.env (eval (.Name x npos) X.env)=eval (.Name x npos) X.env:=by rfl) :
 Ck X (.Expr (.Call (.Attribute (.Name x npos) "append" apos) [e] [] cpos) pos) (nu i f):=by
 refine(sZ (yz (X:=X) PySem.F.plainAttrs_list PySem.F.slot_list_append PySem.F.type_list_append lz (sY hN hv hd hcd) (fJ he iX hs) hbase hfew hline hs) hsw).imp fun D σ H ⟨Z,B,δ,o,E,hf,q⟩=>?_
 obtain⟨d,h1,h2⟩:=R.ak hf
 obtain⟨ds,h3,h4⟩:=R.ak h2
 obtain⟨hl,h5⟩:=R.bo h4
 cases h5
 have hb:=Bw h3
 obtain⟨a,xs,q1,q2,q3,q4,q5⟩:=E.bld i ds hb
 refine⟨.ref a,q1, .inl ⟨rfl,xs,mw.of q4⟩,⟨Z,B,δ,d,E,h1,fun v H1 s1 r1=>?_⟩⟩
 have E1:=E.same s1
 refine⟨a,xs,v,rfl,rfl,s1 a _ q4,by rw[←q5.length];exact of_decide_eq_true hl,?_⟩
 obtain⟨E2,p2⟩:=E1.grow (es:=ds++[d]) (ys:=xs++[v]) hb q1 q2 (s1 a _ q4) ((q5.same s1).append (aH.cons r1 aH.nil))
 exact q σ B _ ((Ev.same E.zb s1).trans (Ev.grow E.zb q3 p2)) E2
noncomputable def uZ(i:Nat)(f:aw→R (List D)):FS:=fun δ=>(f δ).bind fun es=>(jr δ i).bind fun ds=>R.bZ (decide (ds.length+es.length≤sizeLine)) (.ok (.nx (δ.set i (.bld (ds++es)))))
noncomputable def iA(i:Nat)(δ:aw):aw:=match δ[i]? with | some (.bld ds)=>δ.set i (.val (.lst ds)) | _=>δ
theorem dP.iA{K:PySem.W.Frag}{Z B:List Addr}{H:Hp}{σ:St}{δ:aw}(E:dP K Z B H σ δ)(i:Nat):∃B',Ev Z B H B' H∧dP K Z B' H σ (iA i δ):=by
 unfold L2.iA
 cases hd:δ[i]? with
 | none=>exact⟨B,Ev.refl Z B H E.zb,E⟩
 | some x=>
   cases x with
   | un=>exact⟨B,Ev.refl Z B H E.zb,E⟩
   | val d=>exact⟨B,Ev.refl Z B H E.zb,E⟩
   | bld ds=>
     obtain⟨a,xs,q1,q2,q3,q4,q5⟩:=E.bld i ds hd
     have hi:i < δ.length:=(List.getElem?_eq_some_iff.mp hd).1
     have p:dR B H (B.filter fun b=>decide (b≠a)) H:=fun b o e nb=>⟨e,fun hb=>nb (List.mem_filter.mp hb).1⟩
     have zb:∀b∈Z,b∈B.filter fun b=>decide (b≠a):=fun b hb=>List.mem_filter.mpr ⟨E.zb b hb,decide_eq_true fun z=>q3 (z▸hb)⟩
     refine⟨B.filter fun b=>decide (b≠a),⟨p,fun b o e hb=>⟨e,zb b hb⟩⟩,{
      len:=by rw[List.length_set];exact E.len
      bs:=fun b hb=>E.bs b (List.mem_filter.mp hb).1
      zb:=zb
      val:=fun j d e=>by
       by_cases h:i=j
       ·subst h;rw [List.getElem?_set_self hi] at e;cases e
        refine⟨.ref a,q1,?_⟩
        unfold Rep
        exact⟨a,xs,rfl, .inl ⟨fun hb=>by simpa using(List.mem_filter.mp hb).2, .inl q4⟩,q5.br p⟩
       ·rw[List.getElem?_set_ne h] at e
        obtain⟨v,z1,z2⟩:=E.val j d e
        exact⟨v,z1,z2.br p⟩
      bld:=fun j fs e=>by
       by_cases h:i=j
       ·subst h;rw [List.getElem?_set_self hi] at e;cases e
       ·rw[List.getElem?_set_ne h] at e
        obtain⟨b,zs,z1,z2,z3,z4,z5⟩:=E.bld j fs e
        exact⟨b,zs,z1,List.mem_filter.mpr ⟨z2,decide_eq_true fun z=>by subst z;exact h (E.dis i j b ds fs hd e q1 z1)⟩,z3,z4,z5.br p⟩
      dis:=fun j k b ds1 es1 e1 e2 e3 e4=>by
       by_cases h:i=j
       ·subst h;rw [List.getElem?_set_self hi] at e1;cases e1
       ·by_cases h':i=k
        ·subst h';rw [List.getElem?_set_self hi] at e2;cases e2
        ·rw[List.getElem?_set_ne h] at e1
         rw[List.getElem?_set_ne h'] at e2
         exact E.dis j k b ds1 es1 e1 e2 e3 e4}⟩
noncomputable def oX(i:Nat)(F:FS):FS:=fun δ=>F (iA i δ)
theorem ES{K:PySem.W.Frag}{i:Nat}{F:FS}{D:Ends}{σ:St}{H:Hp}(h:sD K (oX i F) D σ H):sD K F D σ H:=by
 obtain⟨Z,B,δ,o,E,hf,q⟩:=h
 obtain⟨B1,ev,E1⟩:=E.iA i
 refine⟨Z,B1,L2.iA i δ,o,E1,hf,?_⟩
 cases o with
 | nx δ'=>exact fun σ' B' H' ev' E'=>q σ' B' H' (ev.trans ev') E'
 | rt d=>exact fun v B' H' ev' z r=>q v B' H' (ev.trans ev') z r
theorem Ee(i:Nat){sts:List Stmt}{F:FS}(h:o_ X sts F):o_ X sts (oX i F):=h.imp fun D σ H h=>ES h
noncomputable def cJ(f:FD):FS:=fun δ=>(f δ).bind fun d=> .ok (.rt d)
theorem DM{e:Expr}{f:FD}{pos:Pos}(he:PD X e f):Ck X (.Return (some e) pos) (cJ f):=(Bt he).imp fun D σ H ⟨Z,B,δ,o,E,hf,q⟩=>by
 obtain⟨d,h1,h2⟩:=R.ak hf
 cases h2
 exact⟨Z,B,δ,d,E,h1,fun v H1 s1 r1=>q v B H1 (Ev.same E.zb s1) E.zb r1⟩
noncomputable def jK(c:aw→R Bool)(F G:FS):FS:=fun δ=>(c δ).bind fun b=>if b then F δ else G δ
theorem Fp{c:Expr}{a b:List Stmt}{fc:aw→R Bool}{F G:FS}{pos:Pos}(hc:PB X c fc)(ha:o_ X a F)(hb:o_ X b G):Ck X (.If c a b pos) (jK fc F G):=(Ez hc ha hb).imp fun D σ H ⟨Z,B,δ,o,E,hf,q⟩=>by
 obtain⟨k,h1,h2⟩:=R.ak hf
 refine⟨Z,B,δ,k,E,h1,fun H1 s1=>?_⟩
 have q':=q.ev (Ev.same E.zb s1)
 cases k with
 | true=>rw [if_pos rfl] at h2;exact yS ⟨Z,B,δ,o,E.same s1,h2,q'⟩
 | false=>rw [if_neg (by decide)] at h2;exact zw ⟨Z,B,δ,o,E.same s1,h2,q'⟩
noncomputable abbrev FT:=D→aw→R aw
noncomputable def gD(K:PySem.W.Frag)(t:FT):TG:=fun v σ H Q=>∃Z B δ d δ',dP K Z B H σ δ∧Rep K B H d v∧t d δ= .ok δ'∧∀σ' H',aY H H'→dP K Z B H' σ' δ'→σ'.length=σ.length→Q σ' H'
noncomputable abbrev FJ(X:Cx)(tg:Expr)(t:FT):Prop:=PG X tg (gD X.K t)
noncomputable def bw(i:Nat):FT:=fun d δ=>R.bZ (decide (i < δ.length)) (.ok (δ.set i (.val d)))
theorem As{i:Nat}{x:Str}{pos:Pos}(hN:X.N.Nodup)(hi:X.N[i]? =some x)(hx:Loc X.env.scope x)(hf:X.fn x=true∨X.env.scope.names.lookup x=some .local:=by first | exact .inl rfl | exact .inr rfl | assumption):FJ X (.Name x pos) (bw i):=
 (x5 hN hi hx hf).imp fun v σ H Q ⟨Z,B,δ,d,δ',E,r,ht,q⟩=>by
   obtain⟨hi,h⟩:=R.bo ht
   cases h
   exact q _ H (aY.refl H) (E.set (by rw[←E.len];exact of_decide_eq_true hi) r) (List.length_set ..)
noncomputable abbrev BK:=List D→aw→R aw
noncomputable def Lj(K:PySem.W.Frag)(t:BK):A8:=fun vs σ H Q=>∃Z B δ ds δ',dP K Z B H σ δ∧aH K B H ds vs∧t ds δ= .ok δ'∧∀σ' H',aY H H'→dP K Z B H' σ' δ'→σ'.length=σ.length→Q σ' H'
noncomputable abbrev By(X:Cx)(ts:List Expr)(t:BK):Prop:=C7 X ts (Lj X.K t)
theorem C7.imp{X:Cx}{e:List Expr}{t t':A8}(h:C7 X e t)(w:∀v σ H Q,t' v σ H Q→t v σ H Q):C7 X e t':=fun pins s σ H v u Q I r hq=>h pins s σ H v u Q I r (w v σ H Q hq)
noncomputable def jl:BK:=fun ds δ=>match ds with | []=> .ok δ | _=> .no
noncomputable def d6(t:FT)(u:BK):BK:=fun ds δ=>match ds with | d ::r=>(t d δ).bind fun δ'=>u r δ' | []=> .no
theorem A4:By X [] jl:=yb.imp fun vs σ H Q ⟨Z,B,δ,ds,δ',E,r,ht,q⟩=>by
 cases ds with
 | nil=>unfold aH at r;cases ht;exact⟨r,q σ H (aY.refl H) E rfl⟩
 | cons=>cases ht
theorem zE{e:Expr}{es:List Expr}{t:FT}{u:BK}(h1:FJ X e t)(h2:By X es u)(hs:(assignEach (e ::es) X.env).map (·.2)=assign e X.env ::(assignEach es X.env).map (·.2):=by rfl):By X (e ::es) (d6 t u):=
 (ux h1 h2 hs).imp fun vs σ H Q ⟨Z,B,δ,ds,δ',E,r,ht,q⟩=>by
   cases ds with
   | nil=>cases ht
   | cons d ds=>
     obtain⟨x,xs,rfl,r1,r2⟩:=r.cu
     obtain⟨δ1,h1,h2⟩:=R.ak ht
     exact⟨x,xs,rfl,Z,B,δ,d,δ1,E,r1,h1,fun σ1 H1 s1 E1 l1=>⟨Z,B,δ1,ds,δ',E1,r2.same s1,h2,fun σ2 H2 s2 E2 l2=>q σ2 H2 (s1.trans s2) E2 (l2.trans l1)⟩⟩
noncomputable def jf(n:Nat)(t:BK):FT:=fun d δ=>match d with | .tup ds=>R.bZ (decide (ds.length=n)) (t ds δ) | _=> .no
theorem DP{es:List Expr}{k:Nat}{t:BK}{n:Nat}{pos:Pos}(hc:X.calm=true)(h:By X es t)(hn:(assignEach es X.env).length=n:=by rfl)(hst:(assignEach es X.env).findIdx? (·.1)=none:=by rfl):FJ X (.Tuple es k pos) (jf n t):=
 (Bi hc h hn hst).imp fun v σ H Q ⟨Z,B,δ,d,δ',E,r,ht,q⟩=>by
   cases d with
   | tup ds=>
     unfold Rep at r
     obtain⟨a,xs,rfl,l,r⟩:=r
     obtain⟨hl,h⟩:=R.bo ht
     exact⟨a,xs,rfl,l.sq,by rw[←r.length];exact of_decide_eq_true hl,Z,B,δ,ds,δ',E,r,h,q⟩
   | _=>cases ht
noncomputable def oV(f:FD)(t:FT):FS:=fun δ=>(f δ).bind fun d=>(t d δ).bind fun δ'=> .ok (.nx δ')
theorem DW{tg e:Expr}{f:FD}{t:FT}{pos:Pos}(he:PD X e f)(hg:FJ X tg t)(hs:swapsWithSole [tg] e pos.line X.env=pure false:=by rfl)(hw:swappedStores [tg] e X.env=pure none:=by rfl)
 (h1:(assignEach [tg] X.env).map (·.2)=[assign tg X.env]:=by rfl):Ck X (.Assign [tg] e pos) (oV f t):=(zS he hg hs hw h1).imp fun D σ H ⟨Z,B,δ,o,E,hf,q⟩=>by
 obtain⟨d,h1,h2⟩:=R.ak hf
 obtain⟨δ1,h3,h4⟩:=R.ak h2
 cases h4
 exact⟨Z,B,δ,d,E,h1,fun v H1 s1 r1=>⟨Z,B,δ,d,δ1,E.same s1,r1,h3,fun σ' H2 s2 E2 _=>q σ' B H2 (Ev.same E.zb (s1.trans s2)) E2⟩⟩
noncomputable def A3(K:PySem.W.Frag)(B:List Addr)(H:Hp)(J:It)(ds:List D):Prop:=∀B' H',dR B H B' H'→(∀(i:Nat) (d:D),ds[i]? =some d→J.go i H'∧∀x H'',J.yld i H' x H''→(∀a∈B',∃o,H' a=some o)→aY H' H''∧Rep K B' H'' d x)∧J.stop ds.length H'
noncomputable def iD(K:PySem.W.Frag)(f:aw→R (List D)):TI:=fun σ H R=>∃Z B δ ds,dP K Z B H σ δ∧f δ= .ok ds∧∀J H1,aY H H1→A3 K B H1 J ds→R J H1
noncomputable abbrev G0(X:Cx)(tg e:Expr)(f:aw→R (List D)):Prop:=PI X tg e (iD X.K f)
noncomputable def eJ(f:FD):aw→R (List D):=fun δ=>(f δ).bind fun d=>match d with | .lst ds=> .ok ds | .tup ds=> .ok ds | _=> .no
theorem DL{tg e:Expr}{f:FD}(h:PD X e f):G0 X tg e (eJ f):=by
 intro pins s σ H RR I ⟨Z,B,δ,ds,E,hf,q⟩
 obtain⟨d,h1,h2⟩:=R.ak hf
 refine dQ (h pins s σ H (fun v H1=>aY H H1∧Rep X.K B H1 d v) I ⟨Z,B,δ,d,E,h1,fun v H1 s1 r1=>⟨s1,r1⟩⟩) fun v s1 ⟨x,H1,I1,r1,ss,rr⟩=>?_
 cases d with
 | lst es=>
   cases h2
   unfold Rep at rr
   obtain⟨a,xs,rfl,l,rr⟩:=rr
   cases r1
   obtain⟨its,rv,p,hz⟩:=I1.list l.sq
   refine wpAny_pyIter_list p.isList ?_
   refine⟨s1.heap.objs.size,[s1.heap.objs.size],_,_,H1,rfl,I1.kept (t':=s1.toks) fun b o e=>Heap.get?_push_of_some _ e,r_ a _,⟨_,Heap.get?_push_size _ rfl,rfl,rfl⟩,fun b hb=>?_,q _ H1 ss fun B' H' pr=>?_⟩
   ·have e:b=s1.heap.objs.size:=by simpa using hb
    subst e
    exact I1.tW (Nat.le_refl _) (I1.hok.fresh (Nat.le_refl _))
   ·have l':qV X.K B' H' a xs:=l.br pr
    have rr':=rr.br pr
    refine⟨fun i d hd=>?_,⟨xs,l'.sq,by rw[rr.length];exact Nat.le_refl _⟩⟩
    obtain⟨x,hx,rx⟩:=rr'.get hd
    exact⟨⟨xs,x,l'.sq,hx⟩,fun y H'' ⟨e1,e2⟩ _=>by
     subst e1
     have:=e2 xs l'.sq
     rw[hx] at this
     cases this
     exact⟨aY.refl _,rx⟩⟩
 | tup es=>
   cases h2
   unfold Rep at rr
   obtain⟨a,xs,rfl,l,rr⟩:=rr
   cases r1
   obtain⟨its,rv,p,hz⟩:=I1.tuple l.sq
   refine wpAny_pyIter_tuple (show s1.heap.IsTuple a its.toArray from p) ?_
   refine⟨s1.heap.objs.size,[s1.heap.objs.size],_,_,H1,rfl,I1.kept (t':=s1.toks) fun b o e=>Heap.get?_push_of_some _ e,wk a _,⟨_,Heap.get?_push_size _ rfl,rfl,rfl⟩,fun b hb=>?_,q _ H1 ss fun B' H' pr=>?_⟩
   ·have e:b=s1.heap.objs.size:=by simpa using hb
    subst e
    exact I1.tW (Nat.le_refl _) (I1.hok.fresh (Nat.le_refl _))
   ·have l':tp X.K B' H' a xs:=l.elim (fun z=> .inl ⟨(pr.rd z.2 z.1).2,(pr.rd z.2 z.1).1⟩) .inr
    have rr':=rr.br pr
    refine⟨fun i d hd=>?_,⟨xs,l'.sq,by rw[rr.length];exact Nat.le_refl _⟩⟩
    obtain⟨x,hx,rx⟩:=rr'.get hd
    exact⟨⟨xs,x,l'.sq,hx⟩,fun y H'' ⟨e1,e2⟩ _=>by
     subst e1
     have:=e2 xs l'.sq
     rw[hx] at this
     cases this
     exact⟨aY.refl _,rx⟩⟩
 | _=>cases h2
noncomputable def b_(lo:Int)(n:Nat):List D:=(List.range n).map fun(i:Nat)=>D.int (lo+i)
theorem AG{K:PySem.W.Frag}{B:List Addr}{H:Hp}(lo:Int)(n:Nat):A3 K B H (IF lo n) (b_ lo n):=fun B' H' _=>by
 refine⟨fun i d hd=>?_,?_⟩
 ·unfold b_ at hd
  rw[List.getElem?_map] at hd
  cases e:(List.range n)[i]? with
  | none=>rw [e] at hd;cases hd
  | some j=>
    rw[e] at hd
    cases hd
    obtain⟨hi,ej⟩:=List.getElem?_eq_some_iff.mp e
    rw[List.getElem_range] at ej
    subst ej
    rw[List.length_range] at hi
    exact⟨hi,fun x H'' ⟨e1,e2⟩ _=>by subst e1 e2;exact⟨aY.refl _,by unfold Rep;rfl⟩⟩
 ·show n≤(b_ lo n).length
  unfold b_
  rw[List.length_map,List.length_range]
  exact Nat.le_refl _
noncomputable def ei(f:FD):aw→R (List D):=fun δ=>(f δ).bind fun d=>match d with | .int j=>R.bZ (decide (-(2 ^ 62)≤j∧j < 2 ^ 62)) (.ok (b_ 0 j.toNat)) | _=> .no
theorem wH{tg a:Expr}{f:FD}{p pos:Pos}(h:PD X a f)(hg:Gl X "range")(hm:X.mg "range"=none)(hs:starEach [a] X.env=[(false,eval a X.env)]:=by rfl):G0 X tg (.Call (.Name "range" p) [a] [] pos) (ei f):=
 (sx hg hm (fJ h iX hs) hs).imp fun σ H RR ⟨Z,B,δ,ds,E,hf,q⟩=>by
   obtain⟨d,h1,h2⟩:=R.ak hf
   cases d with
   | int j=>
     obtain⟨hb,h3⟩:=R.bo h2
     cases h3
     have hb:=of_decide_eq_true hb
     refine⟨Z,B,δ, .int j,E,h1,fun v H1 s1 r1=>⟨j,?_,hb.1,hb.2,q _ H1 s1 (AG 0 _)⟩⟩
     unfold Rep at r1
     rw[r1]
   | _=>cases h2
noncomputable def JV(f g:FD):aw→R (List D):=fun δ=>(f δ).bind fun d=>(g δ).bind fun e=>match d,e with
 | .int i, .int j=>R.bZ (decide (-(2 ^ 62)≤i∧i < 2 ^ 62∧ -(2 ^ 62)≤j∧j < 2 ^ 62)) (.ok (b_ i (j - i).toNat)) | _,_=> .no
noncomputable def mF(t:FT)(body:FS):List D→FS
 | [],δ=> .ok (.nx δ)
 | d ::ds,δ=>(t d δ).bind fun δ1=>(body δ1).bind fun o=>match o with | .nx δ2=>mF t body ds δ2 | .rt r=> .ok (.rt r)
noncomputable def nL(it:aw→R (List D))(t:FT)(body:FS):FS:=fun δ=>(it δ).bind fun ds=>mF t body ds δ
theorem DY{tg iter:Expr}{body:List Stmt}{it:aw→R (List D)}{t:FT}{F:FS}{pos:Pos}(hp:PassesOwn (model X.prog X.w) X.A X.env X.xe)(hc:X.calm=true)(hi:G0 X tg iter it)(hg:FJ X tg t)(hb:o_ X body F)
 (hs:∀x,foldedSetIterable iter X.env x=pure x:=by intro _;rfl):Ck X (.For tg iter body [] pos) (nL it t F):=(z9 hp hc hi hg hb hs).imp fun D σ H ⟨Z,B,δ,o,E,hf,q⟩=>by
 obtain⟨ds,h1,h2⟩:=R.ak hf
 refine⟨Z,B,δ,ds,E,h1,fun J H1 s1 ir=>?_⟩
 refine⟨fun i m σ' H'=>m=ds.length - i∧i≤ds.length∧∃B' δ',Ev Z B H1 B' H'∧dP X.K Z B' H' σ' δ'∧mF t F (ds.drop i) δ'= .ok o,⟨ds.length,rfl,Nat.zero_le _,B,δ,Ev.refl Z B H1 E.zb,E.same s1,by simpa using h2⟩,?_⟩
 rintro i m σ' H' ⟨rfl,hi,B',δ',ev,E',hl⟩
 obtain⟨go,stop⟩:=ir B' H' ev.br
 by_cases hlt:i < ds.length
 ·have hd:ds[i]? =some ds[i]:=List.getElem?_eq_getElem hlt
  have hdrop:ds.drop i=ds[i] ::ds.drop (i+1):=List.drop_eq_getElem_cons hlt
  rw[hdrop] at hl
  obtain⟨δ1,h3,h4⟩:=R.ak hl
  obtain⟨o1,h5,h6⟩:=R.ak h4
  obtain⟨g1,g2⟩:=go i _ hd
  refine .inr ⟨g1,fun σ2 H2=>∃B2 δ2,Ev Z B H1 B2 H2∧dP X.K Z B2 H2 σ2 δ2∧mF t F (ds.drop (i+1)) δ2= .ok o,fun σ2 H2 n=>⟨ds.length - (i+1),by omega,rfl,hlt,n⟩,fun x H'' y=>?_⟩
  obtain⟨ss,rr⟩:=g2 x H'' y E'.bs
  refine⟨Z,B',δ',ds[i],δ1,E'.same ss,rr,h3,fun σ2 H2 s2 E2 l2=>⟨Z,B',δ1,o1,E2,h5,?_⟩⟩
  have ev2:Ev Z B H1 B' H2:=ev.trans (Ev.same E'.zb (ss.trans s2))
  cases o1 with
  | nx δ2=>exact fun σ3 B3 H3 ev3 E3=>⟨B3,δ2,ev2.trans ev3,E3,h6⟩
  | rt d=>
    cases h6
    exact fun v B3 H3 ev3 z r=>q v B3 H3 ((Ev.same E.zb s1).trans (ev2.trans ev3)) z r
 ·have e:i=ds.length:=by omega
  subst e
  rw[List.drop_length] at hl
  cases hl
  exact .inl ⟨stop,q σ' B' H' ((Ev.same E.zb s1).trans ev) E'⟩
noncomputable def Aq(c:aw→R Bool)(body:FS):Nat→FS
 | 0,_=> .no
 | n+1,δ=>(c δ).bind fun b=>if b then(body δ).bind fun o=>match o with | .nx δ2=>Aq c body n δ2 | .rt r=> .ok (.rt r) else .ok (.nx δ)
noncomputable def Jy(n:Nat)(c:aw→R Bool)(body:FS):FS:=fun δ=>Aq c body n δ
noncomputable def qJ(δ:aw)(i:Nat):Sl:=match δ[i]? with | some (.val d)=> .val d | _=> .un
noncomputable def qO(own:List Str)(kp:List Nat)(δ:aw):aw:=List.replicate own.length .un++kp.map (qJ δ)
noncomputable def m8(t:FT)(c:aw→R Bool)(f:FD)(δ:aw):List D→R (List D)
 | []=> .ok []
 | d ::ds=>(t d δ).bind fun δ1=>(c δ1).bind fun b=>if b then(f δ1).bind fun y=>(m8 t c f δ ds).bind fun ys=> .ok (y ::ys) else m8 t c f δ ds
noncomputable def il(it:aw→R (List D))(t:FT)(c:aw→R Bool)(f:FD)(own:List Str)(kp:List Nat):aw→R (List D):=fun δ=>(it δ).bind fun ds=>R.bZ (decide (ds.length≤sizeLine)) (m8 t c f (qO own kp δ) ds)
theorem F_{K:PySem.W.Frag}{Z B B':List Addr}{H H':Hp}{σ:St}{δ:aw}{own:List Str}{kp:List Nat}(E:dP K Z B H σ δ)(p:dR B H B' H')(hB:∀a∈B',∃o,H' a=some o):dP K [] B' H' (dj own kp σ) (qO own kp δ) where
 len:=by unfold dj qO;simp
 bs:=hB
 zb:=fun a ha=>by cases ha
 val:=fun i d e=>by
  unfold qO at e
  unfold dj
  by_cases hi:i < own.length
  ·rw[List.getElem?_append_left (by simpa using hi),List.getElem?_replicate] at e
   split at e <;> cases e
  ·rw[List.getElem?_append_right (by simpa using hi),List.length_replicate,List.getElem?_map] at e ⊢
   cases q:kp[i - own.length]? with
   | none=>rw [q] at e;cases e
   | some j=>
     rw[q] at e
     have e:qJ δ j= .val d:=Option.some.inj e
     unfold qJ at e
     split at e
     ·rename_i d' ed
      cases e
      obtain⟨v,h1,h2⟩:=E.val j d ed
      exact⟨v,by simp [h1],h2.br p⟩
     ·cases e
 bld:=fun i ds e=>by
  unfold qO at e
  by_cases hi:i < own.length
  ·rw[List.getElem?_append_left (by simpa using hi),List.getElem?_replicate] at e
   split at e <;> cases e
  ·rw[List.getElem?_append_right (by simpa using hi),List.length_replicate,List.getElem?_map] at e
   cases q:kp[i - own.length]? with
   | none=>rw [q] at e;cases e
   | some j=>
     rw[q] at e
     have e:qJ δ j= .bld ds:=Option.some.inj e
     unfold qJ at e
     split at e <;> cases e
 dis:=fun i j a ds es e=>by
  unfold qO at e
  by_cases hi:i < own.length
  ·rw[List.getElem?_append_left (by simpa using hi),List.getElem?_replicate] at e
   split at e <;> cases e
  ·rw[List.getElem?_append_right (by simpa using hi),List.length_replicate,List.getElem?_map] at e
   cases q:kp[i - own.length]? with
   | none=>rw [q] at e;cases e
   | some j=>
     rw[q] at e
     have e:qJ δ j= .bld ds:=Option.some.inj e
     unfold qJ at e
     split at e <;> cases e
theorem DX{K:PySem.W.Frag}{it:aw→R (List D)}{t:FT}{c:aw→R Bool}{f:FD}{own:List Str}{kp:List Nat}{σ:St}{H:Hp}{Q:VK}(h:tN K (il it t c f own kp) σ H Q) :
 u7 (iD K it) (gD K t) (Gd K c) (tD K f) own kp σ H Q:=by
 obtain⟨Z,B,δ,ds,E,hf,q⟩:=h
 obtain⟨es,h1,h2⟩:=R.ak hf
 obtain⟨hl,h3⟩:=R.bo h2
 have hl:=of_decide_eq_true hl
 refine⟨Z,B,δ,es,E,h1,fun J H1 s1 ir Dd hD=>?_⟩
 have E1:=E.same s1
 have pD:dR B H1 (Dd ::B) (upd H1 Dd (.lst [])):=uv hD
 refine⟨fun i m ys H'=>m=es.length - i∧i≤es.length∧ys.length≤i∧H' Dd=some (.lst ys)∧aY H1 H'∧∃done rest,ds=done++rest∧aH K (Dd ::B) H' done ys∧m8 t c f (qO own kp δ) (es.drop i)= .ok rest,
  ⟨es.length,rfl,Nat.zero_le _,Nat.le_refl _,a_,bh hD,[],ds,rfl,aH.nil,by simpa using h3⟩,?_⟩
 rintro i m ys H' ⟨rfl,hi,hy,hDl,ss,done,rest,rfl,rd,hc⟩
 have dB:Dd ∉ B:=fun hb=>by obtain⟨o,ho⟩:=E1.bs Dd hb;rw [hD] at ho;cases ho
 have p':dR B H1 (Dd ::B) H':=fun b o e nb=>⟨ss b o e,fun hb=>by
  rcases List.mem_cons.mp hb with z | z
  ·exact bO e hD z
  ·exact nb z⟩
 have hB':∀a∈Dd ::B,∃o,H' a=some o:=fun a ha=>by
  rcases List.mem_cons.mp ha with z | z
  ·subst z;exact⟨_,hDl⟩
  ·obtain⟨o,ho⟩:=E1.bs a z;exact⟨o,ss a o ho⟩
 obtain⟨go,stop⟩:=ir (Dd ::B) H' p'
 by_cases hlt:i < es.length
 ·have hd:es[i]? =some es[i]:=List.getElem?_eq_getElem hlt
  have hdrop:es.drop i=es[i] ::es.drop (i+1):=List.drop_eq_getElem_cons hlt
  rw[hdrop] at hc
  obtain⟨δ1,h4,h5⟩:=R.ak hc
  obtain⟨b,h6,h7⟩:=R.ak h5
  obtain⟨g1,g2⟩:=go i _ hd
  refine .inr ⟨g1,fun x H2 y=>?_⟩
  obtain⟨sy,ry⟩:=g2 x H2 y hB'
  have Ec:dP K [] (Dd ::B) H2 (dj own kp σ) (qO own kp δ):=F_ E1 (p'.trans (dR.same sy)) fun a ha=>let⟨o,ho⟩:=hB' a ha;⟨o,sy a o ho⟩
  refine⟨[],Dd ::B,qO own kp δ,es[i],δ1,Ec,ry,h4,fun σ3 H3 s3 E3 _=>⟨[],Dd ::B,δ1,b,E3,h6,fun H4 s4=>?_⟩⟩
  have sAll:aY H' H4:=sy.trans (s3.trans s4)
  cases b with
  | true=>
    rw[if_pos rfl] at h7
    refine yS ?_
    obtain⟨yv,h8,h9⟩:=R.ak h7
    obtain⟨rs,h10,h11⟩:=R.ak h9
    cases h11
    refine⟨[],Dd ::B,δ1,yv,E3.same s4,h8,fun v H5 s5 r5=>?_⟩
    have s':aY H' H5:=sAll.trans s5
    have hD5:H5 Dd=some (.lst ys):=s' Dd _ hDl
    have pu:dR (Dd ::B) H5 (Dd ::B) (upd H5 Dd (.lst (ys++[v]))):=fun b o e nb=>⟨by rw[bg (fun(z:b=Dd)=>nb (by rw[z];exact List.mem_cons_self))];exact e,nb⟩
    refine⟨hD5,by omega,es.length - (i+1),by omega,rfl,hlt,by rw[List.length_append,List.length_singleton];omega,a_,fun b o e=>?_,done++[yv],rs,by simp,((rd.same s').append (aH.cons r5 aH.nil)).br pu,h10⟩
    rw[bg (bO e hD)]
    exact s' b o (ss b o e)
  | false=>
    rw[if_neg (by decide)] at h7
    refine zw ?_
    exact⟨es.length - (i+1),by omega,rfl,hlt,by omega,sAll Dd _ hDl,ss.trans sAll,done,rest,rfl,rd.same sAll,h7⟩
 ·have e:i=es.length:=by omega
  subst e
  rw[List.drop_length] at hc
  cases hc
  rw[List.append_nil] at q
  exact .inl ⟨stop,q Dd ys H' (s1.trans ss) (s1.free hD) hDl rd⟩
theorem DR{scope:Scope}{own:List Str}{kp:List Nat}{kn:List Str}{tg iter elt:Expr}{ifs:List Expr}{it:aw→R (List D)}{t:FT}{c:aw→R Bool}{f:FD}{pos:Pos}(hc:X.calm=true)(C:cz X scope own kp kn)(hi:G0 X tg iter it)
 (hg:∀fp s H,FJ (bN X scope (own++kn) fp s H) tg t) (hif:∀fp s H,nj (bN X scope (own++kn) fp s H) ifs (Gd X.K c)) (he:∀fp s H,PD (bN X scope (own++kn) fp s H) elt f)
 (hs:∀x,foldedSetIterable iter X.env x=pure x:=by intro _;rfl):PN X (.ListComp elt [⟨tg,iter,ifs,0⟩] scope pos) (il it t c f own kp):=
 (t_ hc C hi hg hif he hs).imp fun σ H Q h=>DX h
noncomputable def oW:aw→R Bool:=fun _=> .ok true
theorem Ag:nj X [] (Gd X.K oW):=fun pins s σ H Q I ⟨Z,B,δ,b,E,hf,q⟩=>uS pins s σ H Q I (by cases hf;exact q H (aY.refl H))
theorem Eb{e:Expr}{c:aw→R Bool}(h:PB X e c):nj X [e] (Gd X.K c):=vf h
end
noncomputable def cW(N:List Str)(ds:List D):aw:=ds.map .val++List.replicate (N.length - ds.length) .un
noncomputable def lF(N:List Str)(F:FS):List D→R D:=fun ds=>(F (cW N ds)).bind fun o=>match o with | .rt d=> .ok d | .nx _=> .ok .cI
theorem Cq{K:PySem.W.Frag}{B:List Addr}{H:Hp}{N:List Str}{ds:List D}{vs:List V}(hB:∀a∈B,∃o,H a=some o)(r:aH K B H ds vs):dP K B B H (start N vs) (cW N ds) where
 len:=by unfold start cW;simp [r.length]
 bs:=hB
 zb:=fun a ha=>ha
 val:=fun i d e=>by
  unfold cW at e
  unfold start
  by_cases hi:i < ds.length
  ·rw[List.getElem?_append_left (by simpa using hi),List.getElem?_map] at e
   cases q:ds[i]? with
   | none=>rw [q] at e;cases e
   | some d'=>
     rw[q] at e
     cases e
     obtain⟨x,h1,h2⟩:=r.get q
     exact⟨x,by rw[List.getElem?_append_left (by rw[List.length_map,←r.length];exact hi),List.getElem?_map,h1];rfl,h2⟩
  ·rw[List.getElem?_append_right (by simpa using hi),List.getElem?_replicate] at e
   split at e <;> cases e
 bld:=fun i es e=>by
  unfold cW at e
  by_cases hi:i < ds.length
  ·rw[List.getElem?_append_left (by simpa using hi),List.getElem?_map] at e
   cases q:ds[i]? with
   | none=>rw [q] at e;cases e
   | some d'=>rw [q] at e;cases e
  ·rw[List.getElem?_append_right (by simpa using hi),List.getElem?_replicate] at e
   split at e <;> cases e
 dis:=fun i j a es fs e=>by
  unfold cW at e
  by_cases hi:i < ds.length
  ·rw[List.getElem?_append_left (by simpa using hi),List.getElem?_map] at e
   cases q:ds[i]? with
   | none=>rw [q] at e;cases e
   | some d'=>rw [q] at e;cases e
  ·rw[List.getElem?_append_right (by simpa using hi),List.getElem?_replicate] at e
   split at e <;> cases e
theorem DV{P:Program}{w:World}{K:PySem.W.Frag}{mg:Str→Option Value}{base:Heap}{x qual:Str}{st:Stmt}{f:Addr}{fd:FuncData}{N ps:List Str}{k:Nat}{F:FS}(Fn:xU K x qual st f fd)(S:ba N ps (ah st))
 (hbody:∀(cdv:Value) (A:Around) (outer:List Env) (s:Shared) (H:Hp) (E:XK),d8 k (A.deeper (envOfC qual (ah st) s.heap.objs.size f cdv))→
   o_ (qi rh P w K mg base N qual (ah st) f cdv A outer s H E).Ct (aq st) F):hJ P w K mg base rh (k+1) f fd ps (yD K ps.length (lF N F)):=by
 refine Fn.ok S (fun vs H Q E h=>h.1) (fun cdv A outer s H vs Q E hr h=>⟨_,hbody cdv A outer s H E hr,?_⟩)
 obtain⟨_,B,ds,d,hB,r,hg,q⟩:=h
 obtain⟨o,h1,h2⟩:=R.ak hg
 refine⟨B,B,cW N ds,o,Cq hB r,h1,?_⟩
 have sm:∀{B':List Addr} {H':Hp},Ev B B H B' H'→aY H H':=fun {B' H'} ev b u e=>by
  by_cases hb:b∈B
  ·exact(ev.zs b u e hb).1
  ·exact(ev.br b u e hb).1
 cases o with
 | nx δ'=>
   cases h2
   exact fun σ' B' H' ev _=>q _ H' (sm ev) (by unfold Rep;rfl)
 | rt d'=>
   cases h2
   exact fun v B' H' ev z rr=>q v H' (sm ev) (rr.br fun b o e nb=>⟨e,fun hb=>nb (z b hb)⟩)
end L2
end
section
set_option maxRecDepth 100000
set_option maxHeartbeats 4000000
namespace L2
open PySem PySem.Spec PyProof.Rows
theorem Rep.int{K:PySem.W.Frag}{B:List Addr}{H:Hp}{i:Int}{v:V}:Rep K B H (.int i) v↔v= .int i:=by unfold Rep;exact Iff.rfl
theorem Rep.bl{K:PySem.W.Frag}{B:List Addr}{H:Hp}{i:Bool}{v:V}:Rep K B H (.bl i) v↔v= .bl i:=by unfold Rep;exact Iff.rfl
theorem Rep.str{K:PySem.W.Frag}{B:List Addr}{H:Hp}{i:Str}{v:V}:Rep K B H (.str i) v↔v= .str i:=by unfold Rep;exact Iff.rfl
theorem Rep.cI{K:PySem.W.Frag}{B:List Addr}{H:Hp}{v:V}:Rep K B H .cI v↔v= .cI:=by unfold Rep;exact Iff.rfl
theorem Rep.lst{K:PySem.W.Frag}{B:List Addr}{H:Hp}{ds:List D}{v:V}:Rep K B H (.lst ds) v↔∃a xs,v= .ref a∧qV K B H a xs∧aH K B H ds xs:=by rw[Rep]
theorem Rep.tup{K:PySem.W.Frag}{B:List Addr}{H:Hp}{ds:List D}{v:V}:Rep K B H (.tup ds) v↔∃a xs,v= .ref a∧tp K B H a xs∧aH K B H ds xs:=by rw[Rep]
section
variable {X:Cx}
theorem j0.of{f:Value→Value→Sem Value}{r:R2}{g:D→D→R D}(h:kM X f r)
 (w:∀(B:List Addr) (H:Hp) (da db d:D) (x y:V) (Q:VK),(∀a∈B,∃o,H a=some o)→Rep X.K B H da x→Rep X.K B H db y→g da db= .ok d→(∀z H',aY H H'→Rep X.K B H' d z→Q z H')→r x y H Q):j0 X f g:=by
 intro pins s σ H B da db d x y v u I hb rx ry ra rb hg
 exact h pins s σ H x y v u _ I rx ry (w B H da db d x y _ hb ra rb hg fun z H' s1 r1=>⟨s1,r1⟩)
theorem cT.of{f:Value}{r:List V→Hp→VK→Prop}{g:List D→R D}(h:jU X f r)
 (w:∀(B:List Addr) (H:Hp) (ds:List D) (d:D) (xs:List V) (Q:VK),(∀a∈B,∃o,H a=some o)→aH X.K B H ds xs→g ds= .ok d→(∀z H',aY H H'→Rep X.K B H' d z→Q z H')→r xs H Q):cT X f g:=by
 intro pins s σ H B ds d xs us I hb rx rs hg
 exact h pins s σ H xs us _ I rx (w B H ds d xs _ hb rs hg fun z H' s1 r1=>⟨s1,r1⟩)
theorem cT.or{f:Value}{g g1 g2:List D→R D}(h1:cT X f g1)(h2:cT X f g2)(e:∀a d,g a= .ok d→g1 a= .ok d∨g2 a= .ok d):cT X f g:=by
 intro pins s σ H B ds d xs us I hb rx rs hg
 rcases e ds d hg with q | q
 ·exact h1 pins s σ H B ds d xs us I hb rx rs q
 ·exact h2 pins s σ H B ds d xs us I hb rx rs q
noncomputable def ue(C:Int→Int→Bool)(g:Int→Int→Int):D→D→R D
 | .int i, .int j=>R.bZ (C i j) (.ok (.int (g i j)))
 | _,_=> .no
theorem xk{f:Value→Value→Sem Value}{C:Int→Int→Bool}{Cp:Int→Int→Prop}{g:Int→Int→Int}(h:kM X f (rI Cp fun i j=> .int (g i j)))(hc:∀i j,C i j=true→Cp i j):j0 X f (ue C g):=
 j0.of h fun B H da db d x y Q _ ra rb hg q=>by
  unfold ue at hg
  split at hg
  ·obtain⟨h1,h2⟩:=R.bo hg
   cases h2
   exact⟨_,_,Rep.int.mp ra,Rep.int.mp rb,hc _ _ h1,q _ H (aY.refl H) (Rep.int.mpr rfl)⟩
  ·cases hg
noncomputable def ni(g:Int→Int→Int):D→D→R D
 | .int i, .int j=> .ok (.int (g i j))
 | _,_=> .no
theorem sP{f:Value→Value→Sem Value}{g:Int→Int→Int}(h:kM X f (zG fun i j=> .int (g i j))):j0 X f (ni g):=
 j0.of h fun B H da db d x y Q _ ra rb hg q=>by
  unfold ni at hg
  split at hg
  ·cases hg
   exact⟨_,_,Rep.int.mp ra,Rep.int.mp rb,q _ H (aY.refl H) (Rep.int.mpr rfl)⟩
  ·cases hg
noncomputable def xV(g:Int→Int→Bool):D→D→R D
 | .int i, .int j=> .ok (.bl (g i j))
 | _,_=> .no
theorem BO{f:Value→Value→Sem Value}{g:Int→Int→Bool}(h:kM X f (zG fun i j=> .bl (g i j))):j0 X f (xV g):=
 j0.of h fun B H da db d x y Q _ ra rb hg q=>by
  unfold xV at hg
  split at hg
  ·cases hg
   exact⟨_,_,Rep.int.mp ra,Rep.int.mp rb,q _ H (aY.refl H) (Rep.bl.mpr rfl)⟩
  ·cases hg
noncomputable abbrev iZ:D→D→R D:=ni fun i j=>i - j
theorem kO:j0 X (binaryOp .Sub) iZ:=sP Gi
noncomputable abbrev oa:D→D→R D:=ue (fun _ j=>decide (0 < j∧j < 1073741824)) fun i j=>i / j
noncomputable abbrev g9:D→D→R D:=ue (fun _ j=>decide (0 < j)) fun i j=>i % j
theorem kx:j0 X (binaryOp .Mod) g9:=xk FV fun i j h=>of_decide_eq_true h
noncomputable abbrev qt:D→D→R D:=ue (fun i j=>decide (0≤j∧j≤1000000∧i.natAbs < 2 ^ 64)) fun i j=>i ^ j.toNat
theorem Eo:j0 X (binaryOp .Pow) qt:=xk Gh fun i j h=>(of_decide_eq_true h:0≤j∧j≤1000000∧i.natAbs < 2 ^ 64)
noncomputable abbrev n4:D→D→R D:=ue (fun _ j=>decide (0≤j)) fun i j=>i / 2 ^ j.toNat
theorem HI:j0 X (binaryOp .RShift) n4:=xk EN fun i j h=>of_decide_eq_true h
noncomputable abbrev Cm:D→D→R D:=ni fun i j=>Builtin.bitAnd i j
theorem zp:j0 X (binaryOp .BitAnd) Cm:=sP FC
noncomputable abbrev EE:D→D→R D:=ni fun i j=>Builtin.bitOr i j
theorem A1:j0 X (binaryOp .BitOr) EE:=sP IB
noncomputable abbrev Ce:D→D→R D:=ni fun i j=>Builtin.bitXor i j
theorem y0:j0 X (binaryOp .BitXor) Ce:=sP GK
noncomputable abbrev zF:D→D→R D:=xV fun i j=>decide (i < j)
theorem HE:j0 X (compareOp .Lt) zF:=BO Iz
noncomputable abbrev Et:D→D→R D:=xV fun i j=>decide (i≤j)
noncomputable abbrev vG:D→D→R D:=xV fun i j=>decide (j < i)
theorem D9:j0 X (compareOp .Gt) vG:=BO HS
noncomputable abbrev Cg:D→D→R D:=xV fun i j=>decide (j≤i)
theorem JW:j0 X (compareOp .GtE) Cg:=BO HB
theorem qV.t4{K:PySem.W.Frag}{B:List Addr}{H:Hp}{a:Addr}{xs:List V}(h:H a=some (.lst xs))(n:a ∉ B):qV K B H a xs:= .inl ⟨n, .inl h⟩
theorem Inv.Ef{pins:List (Addr × Obj)}{σ:St}{H:Hp}{s:Shared}{a:Addr}{xs:List V}{B:List Addr}(I:Inv X pins σ H s)(h:qV X.K B H a xs):∃(its:List Value) (n:Nat),Vals xs its∧s.heap.get? a=some {cls:= .type "list",data:= .seq its.toArray n}∧xs.length≤sizeLine:=by
 rcases h with⟨_,h⟩ | ⟨its,n,hk,hz,r⟩
 ·obtain⟨z,its,n,r,e⟩:=h.ok I.hok
  exact⟨its,n,r,e,z⟩
 ·exact⟨its,n,r,I.nC a _ hk,hz⟩
theorem yr:kM X (binaryOp .Add) (fun x y H Q=>∃B l b xs zs,x= .ref l∧y= .ref b∧qV X.K B H l xs∧qV X.K B H b zs∧xs.length+zs.length≤sizeLine∧∀p,H p=none→Q (.ref p) (upd H p (.lst (xs++zs)))):=by
 intro pins s σ H x y v u Q I rx ry h
 obtain⟨B,l,b,xs,zs,rfl,rfl,hH,hB,hz,q⟩:=h
 cases rx
 cases ry
 obtain⟨its,n,r,e,_⟩:=I.Ef hH
 obtain⟨its2,n2,r2,e2,_⟩:=I.Ef hB
 have l1:=r.length
 have l2:=r2.length
 refine PySem.P.add_list e e2 ?_ (by rw[List.size_toArray,List.size_toArray];omega)
 have ea:its.toArray++its2.toArray=(its++its2).toArray:=by simp
 rw[ea]
 exact⟨.ref _,_,I.D2 (t':=s.toks) (r.append r2) (by rw[List.length_append];omega),rfl,q _ I.fresh⟩
noncomputable def dH:D→D→R D
 | .int i, .int j=> .ok (.int (i+j))
 | .str a, .str b=>R.bZ (decide (a.length+b.length≤sizeLine)) (.ok (.str (a++b)))
 | .lst a, .lst b=>R.bZ (decide (a.length+b.length≤sizeLine)) (.ok (.lst (a++b)))
 | _,_=> .no
theorem eu:j0 X (binaryOp .Add) dH:=by
 intro pins s σ H B da db d x y v u I hb rx ry ra rb hg
 unfold dH at hg
 split at hg
 ·cases hg
  exact Gb pins s σ H x y v u _ I rx ry ⟨_,_,Rep.int.mp ra,Rep.int.mp rb,aY.refl H,Rep.int.mpr rfl⟩
 ·obtain⟨h1,h2⟩:=R.bo hg
  cases h2
  exact v8 pins s σ H x y v u _ I rx ry ⟨_,_,Rep.str.mp ra,Rep.str.mp rb,of_decide_eq_true h1,aY.refl H,Rep.str.mpr rfl⟩
 ·obtain⟨h1,h2⟩:=R.bo hg
  cases h2
  obtain⟨a1,xs1,rfl,l1,r1⟩:=Rep.lst.mp ra
  obtain⟨a2,xs2,rfl,l2,r2⟩:=Rep.lst.mp rb
  refine yr pins s σ H _ _ v u _ I rx ry ⟨B,a1,a2,xs1,xs2,rfl,rfl,l1,l2,by rw[←r1.length,←r2.length];exact of_decide_eq_true h1,fun p hp=>⟨bh hp,Rep.lst.mpr ⟨p,_,rfl, .t4 a_ fun ha=>?_,(r1.append r2).same (bh hp)⟩⟩⟩
  obtain⟨o,ho⟩:=hb p ha
  rw[hp] at ho;cases ho
 ·cases hg
theorem C6:kM X (binaryOp .Mult) (fun x y H Q=>∃z n,x= .str z∧y= .int n∧MulOk z n∧Q (.str (Txt.mul z n)) H):=by
 intro pins s σ H x y v u Q I rx ry h
 obtain⟨z,n,rfl,rfl,hm,q⟩:=h
 obtain⟨t,rfl⟩:=rx
 obtain⟨t',rfl⟩:=ry
 exact SB.mul hm fun t2 k=>⟨.str _,H,I.tok _,⟨_,rfl⟩,q⟩
end
end L2
end
section
set_option maxRecDepth 100000
set_option maxHeartbeats 4000000
namespace L2
open PySem PySem.Spec PyProof.Rows
section
variable {X:Cx}
theorem mulOk_of{x:Str}{n:Int}(h1: -(2 ^ 63)≤n)(h2:n < 2 ^ 63)(h3:x.length*n.toNat≤sizeLine):MulOk x n:=by
 refine⟨by simp only[Bool.or_eq_false_iff,decide_eq_false_iff_not];omega,fun hn _=>?_,fun hn _=>?_⟩
 ·have hz:sizeLine=16777216:=sizeLine_eq
  have e:(n.toNat:Int)=n:=by omega
  have h4:(x.length:Int)*n≤16777216:=by
   have:((x.length*n.toNat:Nat):Int)≤((16777216:Nat):Int):=Int.ofNat_le.mpr (by omega)
   rw[Int.natCast_mul,e] at this
   exact this
  have:(x.length:Int)≤(2 ^ 63 - 1) / n:=(Int.le_ediv_iff_mul_le (by omega)).mpr (by omega)
  omega
 ·unfold Builtin.Str.tooLong;exact decide_eq_false (by omega)
noncomputable def lY:D→D→R D
 | .int i, .int j=>R.bZ (decide ((-(2 ^ 64) < i∧i < 2 ^ 64)∨(-(2 ^ 64) < j∧j < 2 ^ 64))) (.ok (.int (i*j)))
 | .str x, .int n=>R.bZ (decide (-(2 ^ 63)≤n∧n < 2 ^ 63∧x.length*n.toNat≤sizeLine)) (.ok (.str (Txt.mul x n)))
 | _,_=> .no
theorem vC:j0 X (binaryOp .Mult) lY:=by
 intro pins s σ H B da db d x y v u I hb rx ry ra rb hg
 unfold lY at hg
 split at hg
 ·obtain⟨h1,h2⟩:=R.bo hg
  cases h2
  have h1:=of_decide_eq_true h1
  exact EJ pins s σ H x y v u _ I rx ry ⟨_,_,Rep.int.mp ra,Rep.int.mp rb,h1,aY.refl H,Rep.int.mpr rfl⟩
 ·obtain⟨h1,h2⟩:=R.bo hg
  cases h2
  have h1:=of_decide_eq_true h1
  exact C6 pins s σ H x y v u _ I rx ry ⟨_,_,Rep.str.mp ra,Rep.int.mp rb,mulOk_of h1.1 h1.2.1 h1.2.2,aY.refl H,Rep.str.mpr rfl⟩
 ·cases hg
mutual
noncomputable def toPy:D→PyData
 | .cI=> .none
 | .bl b=> .bool b
 | .int i=> .int i
 | .str x=> .str x
 | .lst ds=> .list (kC ds)
 | .tup ds=> .tuple (kC ds)
 | .dct _ _=> .dict []
noncomputable def kC:List D→List PyData
 | []=>[]
 | d ::ds=>toPy d ::kC ds
end
mutual
noncomputable def fw:D→Bool
 | .dct _ _=>false
 | .lst ds=>jg ds
 | .tup ds=>jg ds
 | _=>true
noncomputable def jg:List D→Bool
 | []=>true
 | d ::ds=>fw d && jg ds
end
mutual
theorem Rep.reads{pins:List (Addr × Obj)}{σ:St}{H:Hp}{s:Shared}{B:List Addr}(I:Inv X pins σ H s):∀{d:D} {v:V} {u:Value},fw d=true→Rep X.K B H d v→RelV v u→∃as,Reads s.heap u (toPy d) as
 | .cI,v,u,_,r,q=>by rw[Rep.cI.mp r] at q;cases q;unfold toPy;exact⟨_, .none⟩
 | .bl b,v,u,_,r,q=>by rw[Rep.bl.mp r] at q;cases q;unfold toPy;exact⟨_, .bool b⟩
 | .int i,v,u,_,r,q=>by rw[Rep.int.mp r] at q;obtain⟨t,rfl⟩:=q;unfold toPy;exact⟨_, .int i t⟩
 | .str x,v,u,_,r,q=>by rw[Rep.str.mp r] at q;obtain⟨t,rfl⟩:=q;unfold toPy;exact⟨_, .str x t⟩
 | .lst ds,v,u,hp,r,q=>by
   obtain⟨a,xs,rfl,l,rs⟩:=Rep.lst.mp r
   cases q
   obtain⟨its,rv,⟨o,n,e,hc,hd,he⟩,_⟩:=I.list l.sq
   obtain⟨as,ra⟩:=aH.reads I (by unfold fw at hp;exact hp) rs rv
   unfold toPy
   exact⟨_, .list e hc he (by simpa using ra)⟩
 | .tup ds,v,u,hp,r,q=>by
   obtain⟨a,xs,rfl,l,rs⟩:=Rep.tup.mp r
   cases q
   obtain⟨its,rv,⟨o,e,hc,n,hd⟩,_⟩:=I.tuple l.sq
   obtain⟨as,ra⟩:=aH.reads I (by unfold fw at hp;exact hp) rs rv
   unfold toPy
   exact⟨_, .tuple e hc hd (by simpa using ra)⟩
 | .dct _ _,v,u,hp,r,q=>by unfold fw at hp;cases hp
theorem aH.reads{pins:List (Addr × Obj)}{σ:St}{H:Hp}{s:Shared}{B:List Addr}(I:Inv X pins σ H s):∀{ds:List D} {vs:List V} {us:List Value},jg ds=true→aH X.K B H ds vs→Vals vs us→∃as,ReadsAll s.heap us (kC ds) as
 | [],vs,us,_,r,q=>by unfold aH at r;subst r;cases q;unfold kC;exact⟨_, .nil⟩
 | d ::ds,vs,us,hp,r,q=>by
   obtain⟨x,xs,rfl,r1,r2⟩:=r.cu
   cases q with
   | cons q1 q2=>
     unfold jg at hp
     obtain⟨h1,h2⟩:=Bool.and_eq_true_iff.mp hp
     obtain⟨as,a1⟩:=Rep.reads I h1 r1 q1
     obtain⟨bs,a2⟩:=aH.reads I h2 r2 q2
     unfold kC
     exact⟨_, .cons a1 a2⟩
end
noncomputable def EG:D→D→R Bool
 | .int i, .int j=> .ok (decide (i=j))
 | .str x, .str y=> .ok (decide (x=y))
 | .bl a, .bl b=> .ok (decide (a=b))
 | d,e=>R.bZ (fw d && fw e && SeqAt.shaped (toPy d) && SeqAt.shaped (toPy e)) (.ok (PyData.eqv (toPy d) (toPy e)))
noncomputable def iq(d e:D):R D:=(EG d e).bind fun b=> .ok (.bl b)
noncomputable def tI(d e:D):R D:=(EG d e).bind fun b=> .ok (.bl (!b))
theorem gC(hu:X.A.units+64 < cLine):j0 X (compareOp .Eq) iq:=by
 intro pins s σ H B da db d x y v u I hb rx ry ra rb hg
 obtain⟨b,h1,h2⟩:=R.ak hg
 cases h2
 unfold EG at h1
 split at h1
 ·cases h1
  rename_i i j
  have:=AW pins s σ H x y v u (fun z H'=>aY H H'∧Rep X.K B H' (.bl (decide (i=j))) z) I rx ry
  rw[Rep.int.mp ra,Rep.int.mp rb] at this
  refine this ⟨rfl,aY.refl H,Rep.bl.mpr ?_⟩
  simp [V.int.injEq]
 ·cases h1
  rename_i i j
  have:=AW pins s σ H x y v u (fun z H'=>aY H H'∧Rep X.K B H' (.bl (decide (i=j))) z) I rx ry
  rw[Rep.str.mp ra,Rep.str.mp rb] at this
  refine this ⟨rfl,aY.refl H,Rep.bl.mpr ?_⟩
  simp [V.str.injEq]
 ·cases h1
  rename_i i j
  have:=AW pins s σ H x y v u (fun z H'=>aY H H'∧Rep X.K B H' (.bl (decide (i=j))) z) I rx ry
  rw[Rep.bl.mp ra,Rep.bl.mp rb] at this
  refine this ⟨rfl,aY.refl H,Rep.bl.mpr ?_⟩
  simp [V.bl.injEq]
 ·obtain⟨h3,h4⟩:=R.bo h1
  cases h4
  simp only[Bool.and_eq_true] at h3
  obtain⟨⟨⟨p1,p2⟩,s1⟩,s2⟩:=h3
  obtain⟨as,r1⟩:=ra.reads I p1 rx
  obtain⟨bs,r2⟩:=rb.reads I p2 ry
  exact eq_dataH r1 r2 s1 s2 hu ⟨.bl _,H,I,rfl,aY.refl H,Rep.bl.mpr rfl⟩
theorem B9(hu:X.A.units+64 < cLine):j0 X (compareOp .NotEq) tI:=by
 intro pins s σ H B da db d x y v u I hb rx ry ra rb hg
 obtain⟨b,h1,h2⟩:=R.ak hg
 cases h2
 unfold EG at h1
 split at h1
 ·cases h1
  rename_i i j
  have:=BG pins s σ H x y v u (fun z H'=>aY H H'∧Rep X.K B H' (.bl (!decide (i=j))) z) I rx ry
  rw[Rep.int.mp ra,Rep.int.mp rb] at this
  refine this ⟨rfl,aY.refl H,Rep.bl.mpr ?_⟩
  simp [V.int.injEq]
 ·cases h1
  rename_i i j
  have:=BG pins s σ H x y v u (fun z H'=>aY H H'∧Rep X.K B H' (.bl (!decide (i=j))) z) I rx ry
  rw[Rep.str.mp ra,Rep.str.mp rb] at this
  refine this ⟨rfl,aY.refl H,Rep.bl.mpr ?_⟩
  simp [V.str.injEq]
 ·cases h1
  rename_i i j
  have:=BG pins s σ H x y v u (fun z H'=>aY H H'∧Rep X.K B H' (.bl (!decide (i=j))) z) I rx ry
  rw[Rep.bl.mp ra,Rep.bl.mp rb] at this
  refine this ⟨rfl,aY.refl H,Rep.bl.mpr ?_⟩
  simp [V.bl.injEq]
 ·obtain⟨h3,h4⟩:=R.bo h1
  cases h4
  simp only[Bool.and_eq_true] at h3
  obtain⟨⟨⟨p1,p2⟩,s1⟩,s2⟩:=h3
  obtain⟨as,r1⟩:=ra.reads I p1 rx
  obtain⟨bs,r2⟩:=rb.reads I p2 ry
  exact ne_dataH r1 r2 s1 s2 hu ⟨.bl _,H,I,rfl,aY.refl H,Rep.bl.mpr rfl⟩
noncomputable def strs?:List D→Option (List Str)
 | []=>some []
 | .str x ::ds=>(strs? ds).map (x ::·)
 | _ ::_=>none
theorem jH{K:PySem.W.Frag}{B:List Addr}{H:Hp}:∀{ds:List D} {xs:List V} {ss:List Str},aH K B H ds xs→strs? ds=some ss→xs=ss.map V.str
 | [],xs,ss,r,h=>by unfold aH at r;subst r;cases h;rfl
 | d ::ds,xs,ss,r,h=>by
   obtain⟨x,r',rfl,r1,r2⟩:=r.cu
   cases d with
   | str z=>
     unfold strs? at h
     cases e:strs? ds with
     | none=>rw [e] at h;cases h
     | some tt=>
       rw[e] at h
       cases h
       rw[Rep.str.mp r1,jH r2 e]
       rfl
   | _=>cases h
noncomputable def ints?:List D→Option (List Int)
 | []=>some []
 | .int x ::ds=>(ints? ds).map (x ::·)
 | _ ::_=>none
theorem fT{K:PySem.W.Frag}{B:List Addr}{H:Hp}:∀{ds:List D} {xs:List V} {ss:List Int},aH K B H ds xs→ints? ds=some ss→xs=ss.map V.int
 | [],xs,ss,r,h=>by unfold aH at r;subst r;cases h;rfl
 | d ::ds,xs,ss,r,h=>by
   obtain⟨x,r',rfl,r1,r2⟩:=r.cu
   cases d with
   | int z=>
     unfold ints? at h
     cases e:ints? ds with
     | none=>rw [e] at h;cases h
     | some tt=>
       rw[e] at h
       cases h
       rw[Rep.int.mp r1,fT r2 e]
       rfl
   | _=>cases h
noncomputable def inD(d e:D):R Bool:=match d,e with
 | .str x, .lst ds=>(match strs? ds with | some ss=> .ok (ss.contains x) | none=> .no)
 | .str x, .tup ds=>(match strs? ds with | some ss=> .ok (ss.contains x) | none=> .no)
 | .str x, .str y=> .ok (!(Builtin.Str.occurrences y x 0 y.length 1).isEmpty)
 | .int x, .lst ds=>(match ints? ds with | some ss=> .ok (ss.contains x) | none=> .no)
 | .int x, .tup ds=>(match ints? ds with | some ss=> .ok (ss.contains x) | none=> .no)
 | _,_=> .no
noncomputable def pd(d e:D):R D:=(inD d e).bind fun b=> .ok (.bl b)
noncomputable def kZ(d e:D):R D:=(inD d e).bind fun b=> .ok (.bl (!b))
theorem qR(x:Str):∀ss:List Str,A0 (.str x) (ss.map V.str)=ss.contains x
 | []=>rfl
 | y ::ss=>by
   unfold A0
   rw[List.map_cons,List.any_cons]
   have ih:=qR x ss
   unfold A0 at ih
   rw[ih]
   show(y==x || ss.contains x)=_
   rw[List.contains_cons]
   congr 1
   exact Bool.eq_iff_iff.mpr ⟨fun h=>by simpa using(beq_iff_eq.mp h).symm,fun h=>by simpa using(beq_iff_eq.mp h).symm⟩
theorem p7(x:Int):∀ss:List Int,A0 (.int x) (ss.map V.int)=ss.contains x
 | []=>rfl
 | y ::ss=>by
   unfold A0
   rw[List.map_cons,List.any_cons]
   have ih:=p7 x ss
   unfold A0 at ih
   rw[ih]
   show(y==x || ss.contains x)=_
   rw[List.contains_cons]
   congr 1
   exact Bool.eq_iff_iff.mpr ⟨fun h=>by simpa using(beq_iff_eq.mp h).symm,fun h=>by simpa using(beq_iff_eq.mp h).symm⟩
theorem rJ(ss:List Int):(ss.map V.int).all jW=true:=by
 rw[List.all_map]
 simp [List.all_eq_true,jW]
theorem rG(ss:List Str):(ss.map V.str).all jW=true:=by
 rw[List.all_map]
 simp [List.all_eq_true,jW]
theorem FI{neg:Bool}{op:CmpOp}{g:D→D→R D}(h1:kM X (compareOp op) (Kc X.K neg))(h2:kM X (compareOp op) (fun x y H Q=>∃i j,x= .str i∧y= .str j∧Q (.bl (if neg then !(!(Builtin.Str.occurrences j i 0 j.length 1).isEmpty) else(!(Builtin.Str.occurrences j i 0 j.length 1).isEmpty))) H))
 (hg:∀d e r,g d e= .ok r→∃b,inD d e= .ok b∧r= .bl (if neg then !b else b)):j0 X (compareOp op) g:=by
 intro pins s σ H B da db d x y v u I hb rx ry ra rb hg'
 obtain⟨b,hi,rfl⟩:=hg da db d hg'
 unfold inD at hi
 split at hi
 ·rename_i z ds
  split at hi
  ·rename_i ss e
   cases hi
   obtain⟨a,xs,rfl,l,rs⟩:=Rep.lst.mp rb
   refine h1 pins s σ H x _ v u _ I rx ry ⟨a,xs,rfl, .inl l.sq,by rw[Rep.str.mp ra];rfl,by rw[jH rs e];exact rG _,aY.refl H,Rep.bl.mpr ?_⟩
   rw[jH rs e,Rep.str.mp ra,qR]
  ·cases hi
 ·rename_i z ds
  split at hi
  ·rename_i ss e
   cases hi
   obtain⟨a,xs,rfl,l,rs⟩:=Rep.tup.mp rb
   refine h1 pins s σ H x _ v u _ I rx ry ⟨a,xs,rfl, .inr l.sq,by rw[Rep.str.mp ra];rfl,by rw[jH rs e];exact rG _,aY.refl H,Rep.bl.mpr ?_⟩
   rw[jH rs e,Rep.str.mp ra,qR]
  ·cases hi
 ·cases hi
  exact h2 pins s σ H x y v u _ I rx ry ⟨_,_,Rep.str.mp ra,Rep.str.mp rb,aY.refl H,Rep.bl.mpr rfl⟩
 ·rename_i z ds
  split at hi
  ·rename_i ss e
   cases hi
   obtain⟨a,xs,rfl,l,rs⟩:=Rep.lst.mp rb
   refine h1 pins s σ H x _ v u _ I rx ry ⟨a,xs,rfl, .inl l.sq,by rw[Rep.int.mp ra];rfl,by rw[fT rs e];exact rJ _,aY.refl H,Rep.bl.mpr ?_⟩
   rw[fT rs e,Rep.int.mp ra,p7]
  ·cases hi
 ·rename_i z ds
  split at hi
  ·rename_i ss e
   cases hi
   obtain⟨a,xs,rfl,l,rs⟩:=Rep.tup.mp rb
   refine h1 pins s σ H x _ v u _ I rx ry ⟨a,xs,rfl, .inr l.sq,by rw[Rep.int.mp ra];rfl,by rw[fT rs e];exact rJ _,aY.refl H,Rep.bl.mpr ?_⟩
   rw[fT rs e,Rep.int.mp ra,p7]
  ·cases hi
 ·cases hi
theorem yZ:j0 X (compareOp .In) pd:=FI (neg:=false) rK yX fun d e r h=>by
 obtain⟨b,h1,h2⟩:=R.ak h
 cases h2
 exact⟨b,h1,rfl⟩
noncomputable def ck(d e:D):R D:=match d,e with
 | .lst ds, .int i=>(match oe ds i with | some x=> .ok x | none=> .no)
 | .tup ds, .int i=>(match oe ds i with | some x=> .ok x | none=> .no)
 | .str x, .int i=>R.bZ (decide (x.length≤sizeLine)) (match oe x.cps.toList i with | some c=> .ok (.str ⟨#[c]⟩) | none=> .no)
 | _,_=> .no
theorem m7{K:PySem.W.Frag}{B:List Addr}{H:Hp}{ds:List D}{xs:List V}{i:Int}{d:D}(r:aH K B H ds xs)(h:oe ds i=some d):∃x,oe xs i=some x∧Rep K B H d x:=by
 unfold oe at h ⊢
 rw[←r.length]
 cases e:qp ds.length i with
 | none=>rw [e] at h;cases h
 | some j=>
   rw[e] at h
   exact r.get h
theorem Ir{a b:Expr}{fa fb:FD}{pos:Pos}(ha:PD X a fa)(hb:PD X b fb)(hs:pE b):PD X (.Subscript a b pos) (e2 ck fa fb):=by
 refine(Ej (r:=JF X.K) AY ha hb hs).imp fun σ H Q ⟨Z,B,δ,d,E,hf,q⟩=>?_
 obtain⟨d1,h1,h2⟩:=R.ak hf
 obtain⟨d2,h3,h4⟩:=R.ak h2
 refine⟨Z,B,δ,d1,E,h1,fun v1 H1 s1 r1=>⟨Z,B,δ,d2,E.same s1,h3,fun v2 H2 s2 r2=>?_⟩⟩
 have r1':=r1.same s2
 unfold ck at h4
 split at h4
 ·split at h4
  ·rename_i e
   cases h4
   obtain⟨p,xs,rfl,l,rs⟩:=Rep.lst.mp r1'
   obtain⟨y,e1,e2⟩:=m7 rs e
   exact .inl ⟨p,xs,_,y,rfl,Rep.int.mp r2,l.sq,e1,q y H2 (s1.trans s2) e2⟩
  ·cases h4
 ·split at h4
  ·rename_i e
   cases h4
   obtain⟨p,xs,rfl,l,rs⟩:=Rep.tup.mp r1'
   obtain⟨y,e1,e2⟩:=m7 rs e
   exact .inr (.inl ⟨p,xs,_,y,rfl,Rep.int.mp r2,l.sq,e1,q y H2 (s1.trans s2) e2⟩)
  ·cases h4
 ·obtain⟨hl,h5⟩:=R.bo h4
  split at h5
  ·rename_i e
   cases h5
   exact .inr (.inr ⟨_,_,_,Rep.str.mp r1',Rep.int.mp r2,of_decide_eq_true hl,e,q _ H2 (s1.trans s2) (Rep.str.mpr rfl)⟩)
  ·cases h5
 ·cases h4
noncomputable abbrev FO:=aw→R (Option Int)
noncomputable def KP(K:PySem.W.Frag)(f:FO):TO:=fun σ H Q=>∃Z B δ o,dP K Z B H σ δ∧f δ= .ok o∧∀H',aY H H'→Q o H'
theorem PO.imp{X:Cx}{e:Option Expr}{t t':TO}(h:PO X e t)(w:∀σ H Q,t' σ H Q→t σ H Q):PO X e t':=fun pins s σ H Q I hq=>h pins s σ H Q I (w σ H Q hq)
noncomputable abbrev PP(X:Cx)(e:Option Expr)(f:FO):Prop:=PO X e (KP X.K f)
noncomputable def g8:FO:=fun _=> .ok none
noncomputable def gn(f:FD):FO:=fun δ=>(f δ).bind fun d=>match d with | .int i=> .ok (some i) | _=> .no
theorem DD:PP X none g8:=CQ.imp fun σ H Q ⟨Z,B,δ,o,E,hf,q⟩=>by cases hf;exact q H (aY.refl H)
theorem DI{e:Expr}{f:FD}(h:PD X e f):PP X (some e) (gn f):=(Dp h).imp fun σ H Q ⟨Z,B,δ,o,E,hf,q⟩=>by
 obtain⟨d,h1,h2⟩:=R.ak hf
 cases d with
 | int i=>cases h2;exact⟨Z,B,δ, .int i,E,h1,fun v H1 s1 r1=>⟨i,Rep.int.mp r1,q H1 s1⟩⟩
 | _=>cases h2
theorem Gy:GB X (fun x lo hi H Q=>∃z,x= .str z∧z.length≤sizeLine∧Q (.str (Txt.slice z lo hi)) H):=by
 intro pins s σ H x v vl vu lo hi sl Q I rx hs pl pu h
 obtain⟨z,rfl,hz,q⟩:=h
 obtain⟨t,rfl⟩:=rx
 refine⟨"str",_,F.slot_str_getitem.lookup,typeIs_str _ _ _,?_⟩
 have fin:∀t' k,EP X pins σ Q (.str (Txt.slice z lo hi) t') {s with toks:=k}:=fun t' k=>⟨.str _,H,I.tok _,⟨_,rfl⟩,q⟩
 obtain⟨o,ho,hc,hd⟩:=hs
 cases pl with
 | none=>
   cases pu with
   | none=>exact wpAny_getItem_str_slice (l:=none) (u:=none) (st:=none) ⟨o,ho,hc,hd⟩ rfl (post_val_or_str ⟨Nat.le_trans (Txt.slice_le z _ _) hz,fin⟩)
   | int j u=>exact wpAny_getItem_str_slice (l:=none) (u:=some (j,u)) (st:=none) ⟨o,ho,hc,hd⟩ rfl (post_val_or_str ⟨Nat.le_trans (Txt.slice_le z _ _) hz,fin⟩)
 | int i t1=>
   cases pu with
   | none=>exact wpAny_getItem_str_slice (l:=some (i,t1)) (u:=none) (st:=none) ⟨o,ho,hc,hd⟩ rfl (post_val_or_str ⟨Nat.le_trans (Txt.slice_le z _ _) hz,fin⟩)
   | int j u=>exact wpAny_getItem_str_slice (l:=some (i,t1)) (u:=some (j,u)) (st:=none) ⟨o,ho,hc,hd⟩ rfl (post_val_or_str ⟨Nat.le_trans (Txt.slice_le z _ _) hz,fin⟩)
noncomputable def cutD{α:Type}(xs:List α)(lo hi:Option Int):List α:=(xs.drop (HT.qW xs.length 0 lo)).take (HT.qW xs.length xs.length hi - HT.qW xs.length 0 lo)
noncomputable def DS(d:D)(lo hi:Option Int):R D:=match d with
 | .str x=>R.bZ (decide (x.length≤sizeLine)) (.ok (.str (Txt.slice x lo hi)))
 | .lst ds=> .ok (.lst (cutD ds lo hi))
 | _=> .no
theorem Ax{K:PySem.W.Frag}{B:List Addr}{H:Hp}{ds:List D}{xs:List V}(r:aH K B H ds xs)(lo hi:Option Int):aH K B H (cutD ds lo hi) (wa xs lo hi):=by
 unfold cutD wa
 rw[←r.length]
 exact(r.drop _).take _
noncomputable def rS(f:FD)(fl fh:FO):FD:=fun δ=>(f δ).bind fun d=>(fl δ).bind fun lo=>(fh δ).bind fun hi=>DS d lo hi
theorem Hv{e:Expr}{lo hi:Option Expr}{f:FD}{fl fh:FO}{p2 pos:Pos}(he:PD X e f)(hl:PP X lo fl)(hh:PP X hi fh):PD X (.Subscript e (.Slice lo hi none p2) pos) (rS f fl fh):=by
 refine(zP (Gy.or C1) he hl hh).imp fun σ H Q ⟨Z,B,δ,d,E,hf,q⟩=>?_
 obtain⟨d1,h1,h2⟩:=R.ak hf
 obtain⟨l,h3,h4⟩:=R.ak h2
 obtain⟨h,h5,h6⟩:=R.ak h4
 refine⟨Z,B,δ,d1,E,h1,fun v1 H1 s1 r1=>⟨Z,B,δ,l,E.same s1,h3,fun H2 s2=>⟨Z,B,δ,h,(E.same s1).same s2,h5,fun H3 s3=>?_⟩⟩⟩
 have sA:aY H H3:=s1.trans (s2.trans s3)
 have r1':=r1.same (s2.trans s3)
 unfold DS at h6
 split at h6
 ·obtain⟨hz,h7⟩:=R.bo h6
  cases h7
  exact .inl ⟨_,Rep.str.mp r1',of_decide_eq_true hz,q _ H3 sA (Rep.str.mpr rfl)⟩
 ·cases h6
  obtain⟨a,xs,rfl,ls,rs⟩:=Rep.lst.mp r1'
  refine .inr ⟨a,xs,rfl,ls.sq,fun p hp=>q _ _ (sA.trans (bh hp)) (Rep.lst.mpr ⟨p,_,rfl, .t4 a_ fun ha=>?_,(Ax rs l h).same (bh hp)⟩)⟩
  obtain⟨o,ho⟩:=(E.same sA).bs p ha
  rw[hp] at ho;cases ho
 ·cases h6
end
end L2
end
section
set_option maxRecDepth 100000
set_option maxHeartbeats 4000000
namespace L2
open PySem PySem.Spec PyProof.Rows
section
variable {X:Cx}
theorem aH.one{K:PySem.W.Frag}{B:List Addr}{H:Hp}{d:D}{xs:List V}(h:aH K B H [d] xs):∃x,xs=[x]∧Rep K B H d x:=by
 obtain⟨x,r,rfl,h1,h2⟩:=h.cu
 unfold aH at h2
 subst h2
 exact⟨x,rfl,h1⟩
theorem aH.two{K:PySem.W.Frag}{B:List Addr}{H:Hp}{d e:D}{xs:List V}(h:aH K B H [d,e] xs):∃x y,xs=[x,y]∧Rep K B H d x∧Rep K B H e y:=by
 obtain⟨x,r,rfl,h1,h2⟩:=h.cu
 obtain⟨y,rfl,h3⟩:=h2.one
 exact⟨x,y,rfl,h1,h3⟩
noncomputable def cO:List D→R D
 | [.str x]=>R.bZ (decide (x.length≤sizeLine)) (.ok (.int x.length))
 | [.lst ds]=> .ok (.int ds.length)
 | [.tup ds]=> .ok (.int ds.length)
 | _=> .no
theorem cZ:cT X (.builtin "len") cO:=cT.of Ao fun B H ds d xs Q _ rs hg q=>by
 unfold cO at hg
 split at hg
 ·obtain⟨h1,h2⟩:=R.bo hg
  cases h2
  obtain⟨x,rfl,r⟩:=rs.one
  exact⟨x,_,rfl,by rw[Rep.str.mp r];exact⟨of_decide_eq_true h1,rfl⟩,q _ H (aY.refl H) (Rep.int.mpr rfl)⟩
 ·cases hg
  obtain⟨x,rfl,r⟩:=rs.one
  obtain⟨a,ys,rfl,l,r⟩:=Rep.lst.mp r
  exact⟨_,_,rfl, .inl ⟨ys,l.sq,rfl⟩,q _ H (aY.refl H) (Rep.int.mpr (by rw[r.length]))⟩
 ·cases hg
  obtain⟨x,rfl,r⟩:=rs.one
  obtain⟨a,ys,rfl,l,r⟩:=Rep.tup.mp r
  exact⟨_,_,rfl, .inr ⟨ys,l.sq,rfl⟩,q _ H (aY.refl H) (Rep.int.mpr (by rw[r.length]))⟩
 ·cases hg
noncomputable def cInt:List D→R D
 | [.int i]=> .ok (.int i)
 | [.bl b]=> .ok (.int (if b then 1 else 0))
 | _=> .no
theorem HU:cT X (.type "int") cInt:=cT.of yH fun B H ds d xs Q _ rs hg q=>by
 unfold cInt at hg
 split at hg
 ·cases hg
  obtain⟨x,rfl,r⟩:=rs.one
  exact .inl ⟨_,by rw[Rep.int.mp r],q _ H (aY.refl H) (Rep.int.mpr rfl)⟩
 ·cases hg
  obtain⟨x,rfl,r⟩:=rs.one
  exact .inr ⟨_,by rw[Rep.bl.mp r],q _ H (aY.refl H) (Rep.int.mpr rfl)⟩
 ·cases hg
noncomputable def cStr:List D→R D
 | [.int i]=>R.bZ (decide (i.natAbs.log2 < 1920)) (.ok (.str (toString i)))
 | _=> .no
noncomputable def p9:List D→R D
 | [.int i, .int j]=> .ok (.int (if j < i then j else i))
 | _=> .no
theorem ID(hc:X.calm=true):cT X (.builtin "min") p9:=cT.of (yK hc) fun B H ds d xs Q _ rs hg q=>by
 unfold p9 at hg
 split at hg
 ·cases hg
  obtain⟨x,y,rfl,r1,r2⟩:=rs.two
  exact⟨_,_,by rw[Rep.int.mp r1,Rep.int.mp r2],q _ H (aY.refl H) (Rep.int.mpr rfl)⟩
 ·cases hg
noncomputable def F3:List D→R D
 | [.int i, .int j]=> .ok (.int (if j > i then j else i))
 | _=> .no
theorem H_(hc:X.calm=true):cT X (.builtin "max") F3:=cT.of (zm hc) fun B H ds d xs Q _ rs hg q=>by
 unfold F3 at hg
 split at hg
 ·cases hg
  obtain⟨x,y,rfl,r1,r2⟩:=rs.two
  exact⟨_,_,by rw[Rep.int.mp r1,Rep.int.mp r2],q _ H (aY.refl H) (Rep.int.mpr rfl)⟩
 ·cases hg
noncomputable def fK:List D→R D
 | [.lst ds]=> .ok (.tup ds)
 | [.tup ds]=> .ok (.tup ds)
 | _=> .no
theorem pz:cT X (.type "tuple") fK:=cT.of rm fun B H ds d xs Q hb rs hg q=>by
 unfold fK at hg
 split at hg
 ·cases hg
  obtain⟨x,rfl,r⟩:=rs.one
  obtain⟨a,ys,rfl,l,r⟩:=Rep.lst.mp r
  refine⟨a,ys,rfl, .inl ⟨l.sq,fun p hp=>q _ _ (bh hp) (Rep.tup.mpr ⟨p,ys,rfl, .inl ⟨fun ha=>?_, .inl a_⟩,r.same (bh hp)⟩)⟩⟩
  obtain⟨o,ho⟩:=hb p ha
  rw[hp] at ho;cases ho
 ·cases hg
  obtain⟨x,rfl,r⟩:=rs.one
  have r0:=r
  obtain⟨a,ys,rfl,l,r⟩:=Rep.tup.mp r
  exact⟨a,ys,rfl, .inr ⟨l.sq,q _ H (aY.refl H) r0⟩⟩
 ·cases hg
noncomputable def jV:List D→R D
 | [.lst ds]=> .ok (.lst ds)
 | [.tup ds]=> .ok (.lst ds)
 | _=> .no
theorem vK:cT X (.type "list") jV:=cT.of sQ fun B H ds d xs Q hb rs hg q=>by
 unfold jV at hg
 split at hg
 ·cases hg
  obtain⟨x,rfl,r⟩:=rs.one
  obtain⟨a,ys,rfl,l,r⟩:=Rep.lst.mp r
  refine⟨a,ys,rfl, .inl l.sq,fun p hp=>q _ _ (bh hp) (Rep.lst.mpr ⟨p,ys,rfl, .t4 a_ fun ha=>?_,r.same (bh hp)⟩)⟩
  obtain⟨o,ho⟩:=hb p ha
  rw[hp] at ho;cases ho
 ·cases hg
  obtain⟨x,rfl,r⟩:=rs.one
  obtain⟨a,ys,rfl,l,r⟩:=Rep.tup.mp r
  refine⟨a,ys,rfl, .inr l.sq,fun p hp=>q _ _ (bh hp) (Rep.lst.mpr ⟨p,ys,rfl, .t4 a_ fun ha=>?_,r.same (bh hp)⟩)⟩
  obtain⟨o,ho⟩:=hb p ha
  rw[hp] at ho;cases ho
 ·cases hg
noncomputable def cAbs:List D→R D
 | [.int i]=> .ok (.int (if i < 0 then -i else i))
 | _=> .no
theorem HR:cT X (.builtin "abs") cAbs:=cT.of Ab fun B H ds d xs Q _ rs hg q=>by
 unfold cAbs at hg
 split at hg
 ·cases hg
  obtain⟨x,rfl,r⟩:=rs.one
  exact⟨_,by rw[Rep.int.mp r],q _ H (aY.refl H) (Rep.int.mpr rfl)⟩
 ·cases hg
noncomputable def yE:List D→R D
 | [.lst ds]=>(match ints? ds with | some ns=> .ok (.int ns.sum) | none=> .no)
 | _=> .no
theorem gO:∀{ns:List Int} {us:List Value},Vals (ns.map V.int) us→∃l:List (Int × Tok),us=l.map (fun p=>Value.int p.1 p.2)∧l.map (·.1)=ns
 | [],_, .nil=>⟨[],rfl,rfl⟩
 | n ::ns,_, .cons r t=>by
   obtain⟨l,rfl,e⟩:=gO t
   obtain⟨tk,rfl⟩:=r
   exact⟨(n,tk) ::l,rfl,by rw[List.map_cons,e]⟩
theorem xH(hc:X.calm=true):cT X (.builtin "sum") yE:=by
 intro pins s σ H B ds d xs us I hb rx rs hg
 unfold yE at hg
 split at hg
 ·split at hg
  ·rename_i es ns e
   cases hg
   obtain⟨x,rfl,r⟩:=rs.one
   obtain⟨a,ys,rfl,l,r⟩:=Rep.lst.mp r
   obtain⟨u,rfl,ru⟩:=vals1 rx
   cases ru
   obtain⟨its,n,rv,e1,hz⟩:=I.Ef l
   rw[fT r e] at rv
   obtain⟨ps,rfl,rfl⟩:=gO rv
   have hl:s.heap.IsList a (intItems ps.toArray):=⟨_,e1,rfl,n,by simp [intItems]⟩
   refine sum_intListG (I.ok.hd hc) hl fun h' tk t' k=>⟨.int _,H,I.kept k,⟨t',rfl⟩,aY.refl H,Rep.int.mpr ?_⟩
   rw[preSum_eq,List.take_of_length_le (by simp)]
  ·cases hg
 ·cases hg
noncomputable def tyName:D→String
 | .cI=>"NoneType" | .bl _=>"bool" | .int _=>"int" | .str _=>"str" | .lst _=>"list" | .tup _=>"tuple" | .dct _ _=>"dict"
noncomputable def ui(T:String)(f:FD):FD:=fun δ=>(f δ).bind fun d=>R.bZ (tyName d==T && d.atom) (.ok (.bl true))
noncomputable def IK(X:Cx)(id:String)(g:D→List D→R D):Prop:=
 ∀(pins:List (Addr × Obj)) (s:Shared) (σ:St) (H:Hp) (B:List Addr) (da d:D) (ds:List D) (x:V) (xs:List V) (v:Value) (us:List Value),Inv X pins σ H s→(∀a∈B,∃o,H a=some o)→RelV x v→Vals xs us→Rep X.K B H da x→aH X.K B H ds xs→g da ds= .ok d→
  wpAny (model X.prog X.w) X.A (call (.builtin id) (v ::us)) (EP X pins σ fun z H'=>aY H H'∧Rep X.K B H' d z) X.xe s
noncomputable def yJ(T:String)(g:D→List D→R D)(f:FD)(fs:aw→R (List D)):FD:=fun δ=>(f δ).bind fun d=>R.bZ (tyName d==T && (d.atom || T=="list")) ((fs δ).bind fun ds=>g d ds)
theorem IK.r{id:String}{g:D→List D→R D}(h:IK X id g):KG X id (fun x xs H Q=>∃B da ds d,(∀a∈B,∃o,H a=some o)∧Rep X.K B H da x∧aH X.K B H ds xs∧g da ds= .ok d∧∀z H',aY H H'→Rep X.K B H' d z→Q z H'):=by
 intro pins s σ H x xs v us Q I rx rxs ⟨B,da,ds,d,hb,ra,rs,hg,q⟩
 exact dQ (h pins s σ H B da d ds x xs v us I hb rx rxs ra rs hg) fun z s' ⟨zv,H',I',r',s1,r1⟩=>⟨zv,H',I',r',q zv H' s1 r1⟩
theorem HZ{T id:String}{name:Str}{g:D→List D→R D}{o e:Expr}{es:List Expr}{f:FD}{fs:aw→R (List D)}{apos cpos:Pos}(pa:PlainAttrs T)(slot:Slot T name id)(hty:typeOf (.builtin id)=pure (.type "method_descriptor"))(hm:IK X id g)(ho:PD X o f)(ha:BY X (e ::es) fs)
 (hT:T="str"∨T="int"∨T="list")
 (hbase:attributeBase o name X.env (eval o X.env)=eval o X.env:=by rfl)
 (hfew:((backTo cpos (starEach (e ::es) X.env)).all (fun x=>!x.1) && (backToKw cpos (keywordEach [] X.env)).all (fun x=>x.1.isSome)
   && decide ((e ::es).length+([]:List Keyword).length+(if([]:List Keyword).isEmpty then 0 else 1) < 30))=true:=by rfl)
 (hline:(apos.endLine==cpos.line)=true:=by rfl) (hs:starEach (e ::es) X.env=(false,eval e X.env) ::starEach es X.env:=by rfl) (hplain:(backTo cpos (starEach es X.env)).any (·.1)=false:=by rfl) :
 PD X (.Call (.Attribute o name apos) (e ::es) [] cpos) (yJ T g f fs):=by
 refine(yz pa slot hty hm.r ho ha hbase hfew hline hs hplain).imp fun σ H Q ⟨Z,B,δ,d,E,hf,q⟩=>?_
 obtain⟨d1,h1,h2⟩:=R.ak hf
 obtain⟨h3,h4⟩:=R.bo h2
 obtain⟨ds,h5,h6⟩:=R.ak h4
 obtain⟨h7,h8⟩:=Bool.and_eq_true_iff.mp h3
 have h7:tyName d1=T:=by simpa using h7
 refine⟨Z,B,δ,d1,E,h1,fun v1 H1 s1 r1=>⟨?_,Z,B,δ,ds,E.same s1,h5,fun vs H2 s2 r2=>⟨B,d1,ds,d,(E.same (s1.trans s2)).bs,r1.same s2,r2,h6,fun z H' s3 r3=>q z H' (s1.trans (s2.trans s3)) r3⟩⟩⟩
 cases d1 with
 | str z=>rw [Rep.str.mp r1];exact h7.symm
 | int i=>rw [Rep.int.mp r1];exact h7.symm
 | lst es=>obtain⟨a,xs,rfl,l,_⟩:=Rep.lst.mp r1;exact .inl ⟨h7.symm,xs,l.sq⟩
 | cI=>rcases hT with z | z | z <;> (rw [z] at h7;exact absurd (show("NoneType":String)=_ from h7) (by decide))
 | bl _=>rcases hT with z | z | z <;> (rw [z] at h7;exact absurd (show("bool":String)=_ from h7) (by decide))
 | tup _=>rcases hT with z | z | z <;> (rw [z] at h7;exact absurd (show("tuple":String)=_ from h7) (by decide))
 | dct _ _=>rcases hT with z | z | z <;> (rw [z] at h7;exact absurd (show("dict":String)=_ from h7) (by decide))
noncomputable def Kb(d:D)(ds:List D):R D:=match d,ds with
 | .str sep,[.lst es]=>(match strs? es with | some ss=>R.bZ (JoinOk sep ss) (.ok (.str (Str.join sep ss))) | none=> .no)
 | _,_=> .no
noncomputable abbrev PJ(X:Cx)(es:List Expr)(f:aw→R (List Str)):Prop:=
 ∀(pins:List (Addr × Obj)) (s:Shared) (σ:St) (H:Hp) (Z B:List Addr) (δ:aw) (acc:Str) (ss:List Str) (Q:VK),Inv X pins σ H s→dP X.K Z B H σ δ→f δ= .ok ss→(ss.foldl (·++·) acc).length≤sizeLine→(∀H',aY H H'→Q (.str (ss.foldl (·++·) acc)) H')→
  wpAny (model X.prog X.w) X.A (joinParts acc (evalEach es X.env)) (EP X pins σ Q) X.xe s
noncomputable def uJ:aw→R (List Str):=fun _=> .ok []
noncomputable def oF(f:FD)(g:aw→R (List Str)):aw→R (List Str):=fun δ=>(f δ).bind fun d=>match d with | .str x=>(g δ).bind fun ss=> .ok (x ::ss) | _=> .no
noncomputable def jk(g:aw→R (List Str)):FD:=fun δ=>(g δ).bind fun ss=>R.bZ (decide ((ss.foldl (·++·) Str.empty).length≤sizeLine)) (.ok (.str (ss.foldl (·++·) Str.empty)))
noncomputable def sS:D→R D
 | .str x=>R.bZ (decide (x.length≤sizeLine)) (.ok (.str x))
 | .int i=>R.bZ (decide (i.natAbs.log2 < 1920)) (.ok (.str (toString i)))
 | _=> .no
noncomputable def uo(f:FD):FD:=fun δ=>(f δ).bind sS
noncomputable def Hw:List (D × D)→Str→R (Option D)
 | [],_=> .ok none
 | (.str y,d) ::r,x=>(Hw r x).bind fun o=> .ok (match o with | some e=>some e | none=>if y=x then some d else none)
 | _ ::_,_=> .no
noncomputable def HW(x:Str):List D:=x.cps.toList.map fun c=> .str ⟨#[c]⟩
noncomputable def Me(x:Str):It:=⟨fun i _=>i < x.cps.size,fun i H v H'=>H'=H∧∃c,x.cps[i]? =some c∧v= .str ⟨#[c]⟩,fun i _=>x.cps.size≤i⟩
noncomputable def J_(f:FD):aw→R (List D):=fun δ=>(f δ).bind fun d=>match d with | .str x=> .ok (HW x) | _=> .no
noncomputable def Lb(K:PySem.W.Frag)(a:Addr):It:=
 ⟨fun i H=>∃xs x,mw K H a xs∧xs[i]? =some x,fun i H v H'=>∃p x,H p=none∧v= .ref p∧(∀xs,mw K H a xs→xs[i]? =some x)∧H'=upd H p (.tup [.int i,x]),fun i H=>∃xs,mw K H a xs∧xs.length≤i⟩
theorem zd{P:Program}{w:World}{K:PySem.W.Frag}{elts:List Expr}{k:Nat}{pos:Pos}(a e it:Addr)(hei:e≠it):Turn P w K (.Tuple elts k pos) (Lb K a) [e,it] e (fun i h=>(∃old,IsEnum h e it ((i:Nat):Int) old)∧h.IsListIter it a i) where
 mem:=by simp
 obj:=fun i h st b hb=>by
  obtain⟨⟨old,he⟩,o,ho,c,d⟩:=st
  rcases List.mem_cons.mp hb with rfl | hb
  ·exact⟨_,he,fun v z=>by cases z⟩
  ·have e:b=it:=by simpa using hb
   subst e
   exact⟨o,ho,fun v z=>by rw[d] at z;cases z⟩
 keep:=fun i h h' st k=>by
  obtain⟨⟨old,he⟩,hi⟩:=st
  exact⟨⟨old,k e (by simp) _ he⟩,hi.at fun o x=>k it (by simp) o x⟩
 item:=by
  intro X hP hw hK hc i pins s σ H E I hf st hg
  subst hP hw hK
  obtain⟨xs,x,hq,hx⟩:=hg
  obtain⟨its,rv,p,hz⟩:=I.list hq
  obtain⟨u,hu,ru⟩:=rv.get hx
  obtain⟨⟨old,he⟩,hit⟩:=st
  obtain⟨f0,f1,f2,f3,f4,f5⟩:=hf e (by simp)
  obtain⟨g0,g1,g2,g3,g4,g5⟩:=hf it (by simp)
  refine wpAny_pyNext_enum_item he hit p.isList (x:=u) (by simpa using hu) hei fun h₁ heo hit₁ ht₁ hz₁ hk₁=>⟨_,rfl,?_⟩
  refine wpAny_letOwnedTupleGo_enum heo fun h₂ he₂ hs₂=>?_
  replace hs₂:Heap.SameBut e h₁ h₂:=hs₂
  have hel:e < s.heap.objs.size:=Heap.lt_size he
  have ht₂:h₂.get? s.heap.objs.size=some {cls:= .type "tuple",data:= .seq #[.int i s.toks,u]}:=(hs₂.2 _ (Nat.ne_of_gt hel)).trans ht₁
  have kk:∀b o,b≠e→b≠it→s.heap.get? b=some o→h₂.get? b=some o:=fun b o h1 h2 q=>(hs₂.2 b h1).trans (hk₁ b o h1 h2 q)
  have hn:H s.heap.objs.size=none:=I.fresh
  have sm:aY H (upd H s.heap.objs.size (.tup [.int i,x])):=bh hn
  have nit:∀b o,H b=some o→b≠e∧b≠it:=fun b o q=>⟨fun z=>(by rw[z,f0] at q;cases q),fun z=>(by rw[z,g0] at q;cases q)⟩
  have hok:mq X.prog X.w (upd H s.heap.objs.size (.tup [.int i,x])) h₂:=fun b ob q=>by
   by_cases hb:b=s.heap.objs.size
   ·subst hb
    rw[a_] at q
    cases q
    exact⟨by show 2≤sizeLine;decide,[.int i s.toks,u], .cons ⟨_,rfl⟩ (.cons ru .nil),⟨_,ht₂,rfl,_,rfl⟩⟩
   ·rw[bg hb] at q
    refine(I.hok b ob q).wm (fun c v hc z=>?_) (fun c z=>sm c _ z) fun c ys z=>sm c _ z
    rcases hc with rfl | hc
    ·exact kk c v (nit c _ q).1 (nit c _ q).2 z
    ·exact kk c v (nit c _ hc).1 (nit c _ hc).2 z
  have nch:∀b,b ∉ [e,it]→b≠e∧b≠it:=fun b hb=>⟨fun z=>hb (by simp [z]),fun z=>hb (by simp [z])⟩
  have I2:Inv X pins σ (upd H s.heap.objs.size (.tup [.int i,x])) {s with heap:=h₂,toks:=s.toks+1}:=by
   refine I.step (g':=s.gens) (d':=s.drawn) (ch:=[e,it]) (fun b hb=>?_) (fun b o _ _ hb q _=>kk b o (nch b hb).1 (nch b hb).2 q) (fun b o _ _ hb q _=>⟨o.slots,kk b o (nch b hb).1 (nch b hb).2 q⟩)
    (fun b o hb q n=>by rw[bg (Nat.ne_of_lt (Heap.lt_size q))];exact n) (fun b o hb q=>⟨o,kk b o (nch b hb).1 (nch b hb).2 q⟩) (fun b ys z=>sm b _ z) (fun b o u z=>sm b _ z) (fun b ps z=>⟨#[],by rw[sm b _ z];simp⟩) (fun m hm=>?_) hok I.bare
   ·rcases List.mem_cons.mp hb with rfl | hb
    ·exact⟨f3,f1,f4,f5⟩
    ·have z:b=it:=by simpa using hb
     subst z
     exact⟨g3,g1,g4,g5⟩
   ·obtain⟨o,es,ep,ho,r⟩:=hm
    exact⟨o,es,ep,kk _ o (Ne.symm f1) (Ne.symm g1) ho,r⟩
  refine⟨.ref s.heap.objs.size,_,I2,rfl,⟨s.heap.objs.size,x,hn,rfl,fun ys hy=>(by rw[I.qa hy hq];exact hx),rfl⟩,⟨⟨_,by simpa using he₂⟩,hit₁.at fun o q=>(hs₂.2 it (Ne.symm hei)).trans q⟩,fun b hb=>?_⟩
  rcases List.mem_cons.mp hb with rfl | hb
  ·rw[bg (Nat.ne_of_lt hel)];exact f0
  ·have z:b=it:=by simpa using hb
   subst z
   obtain⟨o,ho,_⟩:=hit
   rw[bg (Nat.ne_of_lt (Heap.lt_size ho))];exact g0
 done:=by
  intro X hP hw hK hc i pins s σ H E I hf st hg
  subst hP hw hK
  obtain⟨xs,hq,hx⟩:=hg
  obtain⟨its,rv,p,hz⟩:=I.list hq
  obtain⟨⟨old,he⟩,hit⟩:=st
  obtain⟨g0,g1,g2,g3,g4,g5⟩:=hf it (by simp)
  have hl:=rv.length
  exact wpAny_pyNext_enum_end (I.ok.hd hc) he hit p.isList (by simp;omega) fun h' eb=>⟨rfl,I.turned (t':=s.toks) (fun b o hb q=>eb b o hb q) g0 g1 g3 g4 g5⟩
 self:=fun A i s Q E st h=>let⟨⟨_,he⟩,_⟩:=st;wpAny_pyIter_enum he h
noncomputable def ft(ds:List D):List D:=ds.zipIdx.map fun p=> .tup [.int p.2,p.1]
noncomputable def k8(f:FD):aw→R (List D):=fun δ=>(f δ).bind fun d=>match d with | .lst ds=> .ok (ft ds) | _=> .no
theorem uN{elts:List Expr}{k:Nat}{tpos:Pos}{a:Expr}{f:FD}{p pos:Pos}(h:PD X a f)(hg:Gl X "enumerate")(hm:X.mg "enumerate"=none)(hs:starEach [a] X.env=[(false,eval a X.env)]:=by rfl):G0 X (.Tuple elts k tpos) (.Call (.Name "enumerate" p) [a] [] pos) (k8 f):=by
 intro pins s σ H RR I ⟨Z,B,δ,ds,E,hf,q⟩
 obtain⟨d,h1,h2⟩:=R.ak hf
 have hA:=fJ h iX hs pos pins s σ H (fun vs H1=>aY H H1∧∃v,vs=[v]∧Rep X.K B H1 d v) I ⟨Z,B,δ,d,E,h1,fun v H1 s1 r1=>⟨s1,v,rfl,r1⟩⟩
 refine Call_ (l7 I hg hm boot_enumerate (PyProof.Rows.callWith_type1 (dQ hA fun us s1 ⟨vs,H1,I1,r1,ss,v,ev,rr⟩=>?_) hs rfl))
 subst ev
 obtain⟨u,rfl,ru⟩:=vals1 r1
 cases d with
 | lst es=>
   cases h2
   obtain⟨b,xs,rfl,l,rs⟩:=Rep.lst.mp rr
   cases ru
   obtain⟨its,n,rv,e1,hz⟩:=I1.Ef l
   refine call_enumerate_list (items:=its.toArray) ⟨_,e1,rfl,n,rfl⟩ fun h' he hit hsz kk=>wpAny_pyIter_enum he ?_
   have I2:Inv X pins σ H1 {s1 with heap:=h'}:=I1.kept (t':=s1.toks) kk
   refine⟨s1.heap.objs.size+1,[s1.heap.objs.size+1,s1.heap.objs.size],_,_,H1,rfl,I2,zd b (s1.heap.objs.size+1) s1.heap.objs.size (Nat.succ_ne_self _),⟨⟨_,he⟩,hit⟩,fun c hc=>?_,q _ H1 ss fun B' H' pr=>?_⟩
   ·have hle:s1.heap.objs.size≤c:=by
     rcases List.mem_cons.mp hc with z | hc
     ·rw[z];exact Nat.le_succ _
     ·have z:c=s1.heap.objs.size:=by simpa using hc
      rw[z];exact Nat.le_refl _
    exact I1.tW hle (I1.hok.fresh hle)
   ·have l':qV X.K B' H' b xs:=l.br pr
    have rs':=rs.br pr
    refine⟨fun i d hd=>?_,⟨xs,l'.sq,by rw[←rs.length];unfold ft;simp⟩⟩
    unfold ft at hd
    rw[List.getElem?_map,List.getElem?_zipIdx] at hd
    cases e:es[i]? with
    | none=>rw [e] at hd;cases hd
    | some d0=>
      rw[e] at hd
      have hd:D.tup [.int ((0+i:Nat):Int),d0]=d:=Option.some.inj hd
      rw[Nat.zero_add] at hd
      obtain⟨x,hx,rx⟩:=rs'.get e
      refine⟨⟨xs,x,l'.sq,hx⟩,fun v H'' y hB'=>?_⟩
      obtain⟨p,y,hp,rfl,hy,rfl⟩:=y
      refine⟨bh hp,?_⟩
      subst hd
      have hy2:=hy xs l'.sq
      rw[hx] at hy2
      cases hy2
      refine Rep.tup.mpr ⟨p,_,rfl, .inl ⟨fun ha=>?_, .inl a_⟩,aH.cons (Rep.int.mpr rfl) (aH.cons (rx.same (bh hp)) aH.nil)⟩
      obtain⟨o,ho⟩:=hB' p ha
      rw[hp] at ho;cases ho
 | _=>cases h2
end
end L2
end
section
set_option maxRecDepth 100000
set_option maxHeartbeats 4000000
namespace L2
open PySem PySem.Spec PyProof.Rows
noncomputable def Def(K:PySem.W.Frag)(mg:Str→Option Value)(x:Str)(st:Stmt):Prop:=∃f fd,xU K x x st f fd∧mg x=some (.ref f)
noncomputable def Callee(P:Program)(w:World)(K:PySem.W.Frag)(mg:Str→Option Value)(base:Heap)(k:Nat)(x:Str)(n:Nat)(g:List D→R D):Prop:=
 ∃f fd ps,hJ P w K mg base rh k f fd ps (yD K n g)∧mg x=some (.ref f)∧PySem.W.keepIn K (.ref f)=true∧Binds K fd ps []
theorem bq:∀(δ:aw) (ds:List D),aD δ= .ok ds→ds.length=0:=fun δ ds h=>by cases h;rfl
theorem ax{f:FD}{g:aw→R (List D)}{n:Nat}(h:∀(δ:aw) (ds:List D),g δ= .ok ds→ds.length=n):∀(δ:aw) (ds:List D),ao f g δ= .ok ds→ds.length=n+1:=fun δ ds e=>by
 obtain⟨d,h1,h2⟩:=R.ak e
 obtain⟨es,h3,h4⟩:=R.ak h2
 cases h4
 rw[List.length_cons,h δ es h3]
theorem BH{P:Program}{w:World}{K:PySem.W.Frag}{mg:Str→Option Value}{base:Heap}{x qual:Str}{st:Stmt}{f:Addr}{fd:FuncData}{N ps:List Str}{k:Nat}{F:FS}{b:List Stmt}{sc:Scope}(hb:aq st=b)(hs:ah st=sc)(Fn:xU K x qual st f fd)(S:ba N ps sc)
 (hbody:∀(cdv:Value) (A:Around) (outer:List Env) (s:Shared) (H:Hp) (E:XK),d8 k (A.deeper (envOfC qual sc s.heap.objs.size f cdv))→
   o_ (qi rh P w K mg base N qual sc f cdv A outer s H E).Ct b F):hJ P w K mg base rh (k+1) f fd ps (yD K ps.length (lF N F)):=by
 subst hb hs
 exact DV Fn S hbody
section
variable {X:Cx}
theorem Ac{g:List D→R D}{k j n:Nat}{x:Str}{p pos:Pos}{e:Expr}{es:List Expr}{fs:aw→R (List D)}(C:Callee X.prog X.w X.K X.mg X.base k x n g)(hr:d8 j X.A)(hkj:k≤j)(hg:Gl X x)(ha:BY X (e ::es) fs)
 (hn:∀δ ds,fs δ= .ok ds→ds.length=n) (hdb:(x==("__debug__":Str))=false:=by decide) (he:starEach (e ::es) X.env=(false,eval e X.env) ::starEach es X.env:=by rfl) (hpl:(backTo pos (starEach es X.env)).any (·.1)=false:=by rfl) :
 PD X (.Call (.Name x p) (e ::es) [] pos) (aA g fs):=by
 obtain⟨f,fd,ps,F,hm,hk,hb⟩:=C
 exact Cz F (hr.mono hkj) hg hm hk hb ha hn hdb he hpl
noncomputable def G8(sc:Scope)(N:List Str)(scope:Scope)(kp:List Nat)(kn:List Str):Bool:=
 decide (scope.kind= .function) && scope.names.all (fun y=>decide (y.2≠ .cell)) && scope.names.all (fun y=>decide (y.2= .local→scope.names.lookup y.1=some .local))
  && scope.names.all (fun y=>decide (y.2= .free→(sc.names.lookup y.1=some .cell∨sc.names.lookup y.1=some .free))) && decide (kn.length=kp.length)
  && (List.range kp.length).all (fun j=>decide ((kp[j]?).bind (N[·]?)=kn[j]?)) && kn.all (fun x=>decide (scope.names.lookup x=some .free))
theorem cz.of{scope:Scope}{own:List Str}{kp:List Nat}{kn:List Str}{sc:Scope}{N:List Str}(h1:X.env.scope=sc)(h2:X.N=N)(h:G8 sc N scope kp kn=true):cz X scope own kp kn:=by
 unfold G8 at h
 simp only[Bool.and_eq_true,decide_eq_true_eq,List.all_eq_true] at h
 obtain⟨⟨⟨⟨⟨⟨a1,a2⟩,a3⟩,a4⟩,a5⟩,a6⟩,a7⟩:=h
 refine⟨a1,a2,a3,fun y hy hf=>?_,a5,fun j i x hj hx=>?_,a7⟩
 ·have:=a4 y hy hf
  unfold Env.kindOf
  rw[h1]
  exact this
 ·have hlt:j < kp.length:=(List.getElem?_eq_some_iff.mp hj).1
  have:=a6 j (List.mem_range.mpr hlt)
  rw[hj] at this
  rw[h2]
  exact this.trans hx
noncomputable def GS(kvs:List (Key × V))(f g:FD):FD:=fun δ=>(f δ).bind fun k=>(g δ).bind fun d=>match k with
 | .str x=>(match k6 (jt [] kvs) (Sum.inr x) with | some (.int i)=> .ok (.int i) | none=> .ok d | _=> .no)
 | _=> .no
theorem ED{keys:List (Option Expr)}{values:List Expr}{trs:List (TE × TE)}{dpos apos cpos:Pos}{e f:Expr}{fe ff:FD}{kvs:List (Key × V)}(hu:X.A.units+1 < cLine)(h:G4 X dpos keys values trs)(hall:keys.all (·.isSome)=true)(hl:keys.length=values.length)(h0:keys≠[])
 (hc:∀σ H Q,Q (kvs.map fun kv=>(kV kv.1,kv.2)) H→qx trs σ H Q) (hlen:kvs.length≤15) (he:PD X e fe) (hf:PD X f ff) (m:M2 X (.Dict keys values dpos) "get" apos e f cpos)
 (hd:PE X (.Dict keys values dpos) (Bd trs)):PD X (.Call (.Attribute (.Dict keys values dpos) "get" apos) [e,f] [] cpos) (GS kvs fe ff):=by
 refine(Cc hu hd he hf m).imp fun σ H Q ⟨Z,B,δ,d,E,hfd,q⟩=>?_
 obtain⟨k,h1,h2⟩:=R.ak hfd
 obtain⟨dd,h3,h4⟩:=R.ak h2
 intro p hp
 refine hc σ _ _ ⟨a_,kvs,rfl,hlen,p,rfl, .inl ⟨_, .inl a_⟩,?_⟩
 rw[Cs]
 have s0:aY H (upd H p (.dK (jt [] kvs))):=bh hp
 refine⟨Z,B,δ,k,E.same s0,h1,fun v1 H1 s1 r1=>⟨Z,B,δ,dd,(E.same s0).same s1,h3,fun v2 H2 s2 r2=>?_⟩⟩
 have hH2:H2 p=some (.dK (jt [] kvs)):=s2 p _ (s1 p _ a_)
 have sA:aY H H2:=s0.trans (s1.trans s2)
 split at h4
 ·rename_i x
  refine⟨k6 (jt [] kvs) (Sum.inr x),?_,?_⟩
  ·rw[Rep.str.mp r1];exact rn.k (k:=Sum.inr x) hH2
  ·split at h4
   ·rename_i i e1
    cases h4
    rw[e1]
    exact q _ H2 sA (Rep.int.mpr rfl)
   ·rename_i e1
    cases h4
    rw[e1]
    exact q _ H2 sA r2
   ·cases h4
 ·cases h4
noncomputable def ot(i:Nat)(f:FD):FS:=fun δ=>(f δ).bind fun d=>match d with
 | .lst es=>(jr δ i).bind fun ds=>R.bZ (decide (ds.length+es.length≤sizeLine)) (.ok (.nx (δ.set i (.bld (ds++es)))))
 | _=> .no
end
end L2
end
section
set_option maxRecDepth 100000
set_option maxHeartbeats 4000000
namespace L2
open PySem PySem.Spec PyProof.Rows
structure QD (X:Cx) (e:Expr) (f:FD):Prop where
 h:PD X e f
structure QN (X:Cx) (e:Expr) (f:aw→R (List D)):Prop where
 h:PN X e f
structure QB (X:Cx) (e:Expr) (f:aw→R Bool):Prop where
 h:PB X e f
structure FU (X:Cx) (e:Expr) (f:aw→R Bool):Prop where
 h:Cn X e f
structure Dl (X:Cx) (e:List Expr) (f:aw→R (List D)):Prop where
 h:BY X e f
structure D8 (X:Cx) (e:Stmt) (f:FS):Prop where
 h:Ck X e f
structure q_ (X:Cx) (e:List Stmt) (f:FS):Prop where
 h:o_ X e f
structure GZ (X:Cx) (e:Expr) (f:FT):Prop where
 h:FJ X e f
structure Dh (X:Cx) (e:List Expr) (f:BK):Prop where
 h:By X e f
structure yd (X:Cx) (tg e:Expr) (f:aw→R (List D)):Prop where
 h:G0 X tg e f
structure QP (X:Cx) (e:Option Expr) (f:FO):Prop where
 h:PP X e f
structure QJ (X:Cx) (e:List Expr) (f:aw→R (List Str)):Prop where
 h:PJ X e f
structure FY (X:Cx) (e:List Expr) (c:aw→R Bool):Prop where
 h:nj X e (Gd X.K c)
section
variable {X:Cx}
theorem bY{e:Expr}{f:aw→R (List D)}(h:QN X e f):QD X e (eNew f):=⟨EF h.1⟩
theorem um{e:Expr}{f:FD}(h:QD X e f):QD X e (jb f):=⟨DQ h.1⟩
theorem aa(i:Nat){x:Str}{pos:Pos}(hN:X.N[i]? =some x:=by rfl)(hv:Eg X.env.scope x:=by first | exact Or.inl rfl | exact Or.inr (Or.inl rfl) | exact Or.inr (Or.inr rfl))(hd:(x==("__debug__":Str))=false:=by decide)(hcd:(x==("__classdict__":Str))=false:=by decide):QD X (.Name x pos) (ag i):=⟨Fb i hN hv hd hcd⟩
theorem ae{i j pos}:QD X (.Constant (.int i) j pos) (eC (.int i)):=⟨FL⟩
theorem ib{b j pos}:QD X (.Constant (.bool b) j pos) (eC (.bl b)):=⟨Iu⟩
theorem lA{j pos}:QD X (.Constant .none j pos) (eC .cI):=⟨ER⟩
theorem bK{x j pos}:QD X (.Constant (.str x) j pos) (eC (.str x)):=⟨EU⟩
theorem af:Dl X [] aD:=⟨D_⟩
theorem ab{e:Expr}{es:List Expr}{f:FD}{g:aw→R (List D)}(h:QD X e f)(t:Dl X es g)(hs:starEach (e ::es) X.env=(false,eval e X.env) ::starEach es X.env:=by rfl):Dl X (e ::es) (ao f g):=⟨Ap h.1 t.1 hs⟩
theorem c6{es:List Expr}{g:aw→R (List D)}{x1 pos}(h:Dl X es g):QD X (.Tuple es x1 pos) (fA g):=⟨Gp h.1⟩
theorem bM{es:List Expr}{g:aw→R (List D)}{pos}(h:Dl X es g):QN X (.List es pos) (dk g):=⟨Fi h.1⟩
theorem aQ{op:Operator}{g:D→D→R D}{a b:Expr}{fa fb:FD}{pos:Pos}(ho:j0 X (binaryOp op) g)(ha:QD X a fa)(hb:QD X b fb):QD X (.BinOp a op b pos) (e2 g fa fb):=⟨HY ho ha.1 hb.1⟩
theorem gQ{op:CmpOp}{g:D→D→R D}{a b:Expr}{fa fb:FD}{pos:Pos}(ho:j0 X (compareOp op) g)(ha:QD X a fa)(hb:QD X b fb)(hm:behindInMarks op b=false):QD X (.Compare a [op] [b] pos) (e2 g fa fb):=⟨Gs ho ha.1 hb.1 hm⟩
theorem bC{op:CmpOp}{g:D→D→R D}{a b:Expr}{fa fb:FD}{pos:Pos}(ho:j0 X (compareOp op) g)(ha:QD X a fa)(hb:QD X b fb)(hm:behindInMarks op b=false):QB X (.Compare a [op] [b] pos) (b2 g fa fb):=⟨GH ho ha.1 hb.1 hm⟩
theorem d7{a:Expr}{f:FD}(ha:QD X a f)(he:∀whole,isTrue a X.env whole=(do let v ←whole;standAt a.pos;holding [v] (truthy v)):=by intro _;rfl):QB X a (gb f):=⟨GJ ha.1 he⟩
theorem j5{e:Expr}{f:aw→R Bool}(h:FU X e f):QB X e f:=⟨Cn.pb h.1⟩
theorem nS{a:Expr}{f:aw→R Bool}{pos:Pos}(h:QB X a f):FU X (.BoolOp .And [a] pos) f:=⟨Bs h.1⟩
theorem mM{a:Expr}{f:aw→R Bool}{pos:Pos}(h:QB X a f):FU X (.BoolOp .Or [a] pos) f:=⟨Cy h.1⟩
theorem ql{a b:Expr}{rest:List Expr}{f g:aw→R Bool}{pos:Pos}(ha:QB X a f)(hb:FU X (.BoolOp .And (b ::rest) pos) g):FU X (.BoolOp .And (a ::b ::rest) pos) (lL f g):=⟨CZ ha.1 hb.1⟩
theorem pH{a b:Expr}{rest:List Expr}{f g:aw→R Bool}{pos:Pos}(ha:QB X a f)(hb:FU X (.BoolOp .Or (b ::rest) pos) g):FU X (.BoolOp .Or (a ::b ::rest) pos) (so f g):=⟨GG ha.1 hb.1⟩
theorem gp{a:Expr}{f:aw→R Bool}{pos:Pos}(ha:QB X a f):QB X (.UnaryOp .Not a pos) (ia f):=⟨GD ha.1⟩
theorem tZ{a:Expr}{op}{f:FD}{pos:Pos}(h:QD X a f):QD X (.BoolOp op [a] pos) f:=⟨EY h.1⟩
theorem pI{a b:Expr}{rest:List Expr}{f g:FD}{pos:Pos}(ha:QD X a f)(hb:QD X (.BoolOp .And (b ::rest) pos) g):QD X (.BoolOp .And (a ::b ::rest) pos) (nq f g):=⟨Ff ha.1 hb.1⟩
theorem D3{a:Expr}{f:FD}{pos:Pos}(ha:QD X a f):QD X (.UnaryOp .Not a pos) (qE f):=⟨Gj ha.1⟩
theorem wX{c a b:Expr}{fc:aw→R Bool}{f g:FD}{pos:Pos}(hc:QB X c fc)(ha:QD X a f)(hb:QD X b g):QD X (.IfExp c a b pos) (w_ fc f g):=⟨Il hc.1 ha.1 hb.1⟩
theorem aM{g:List D→R D}{x:Str}{id:String}{p pos:Pos}{e:Expr}{es:List Expr}{fs:aw→R (List D)}(hc:cT X (.builtin id) g)(hg:Gl X x)(hm:X.mg x=none)(hv:bootBuiltins x=some (.builtin id))(ha:Dl X (e ::es) fs)(hn:x≠"__name__":=by decide)(hdb:(x==("__debug__":Str))=false:=by decide)(he:starEach (e ::es) X.env=(false,eval e X.env) ::starEach es X.env:=by rfl)(hpl:(backTo pos (starEach es X.env)).any (·.1)=false:=by rfl):QD X (.Call (.Name x p) (e ::es) [] pos) (aA g fs):=⟨BI hc hg hm hv ha.1 hn hdb he hpl⟩
theorem cY{g:List D→R D}{x:Str}{T:String}{p pos:Pos}{e:Expr}{es:List Expr}{fs:aw→R (List D)}(hc:cT X (.type T) g)(hg:Gl X x)(hm:X.mg x=none)(hv:bootBuiltins x=some (.type T))(ha:Dl X (e ::es) fs)(hn:x≠"__name__":=by decide)(hdb:(x==("__debug__":Str))=false:=by decide)(he:starEach (e ::es) X.env=(false,eval e X.env) ::starEach es X.env:=by rfl)(hpl:(backTo pos (starEach es X.env)).any (·.1)=false:=by rfl):QD X (.Call (.Name x p) (e ::es) [] pos) (aA g fs):=⟨zu hc hg hm hv ha.1 hn hdb he hpl⟩
theorem bQ:q_ X [] eA:=⟨D7⟩
theorem aT{st:Stmt}{rest:List Stmt}{F G:FS}(h1:D8 X st F)(h2:q_ X rest G):q_ X (st ::rest) (cQ F G):=⟨BR h1.1 h2.1⟩
theorem aG{st:Stmt}{F:FS}(h1:D8 X st F):q_ X [st] F:=⟨Di h1.1⟩
theorem fZ{i:Nat}{x:Str}{e:Expr}{f:FD}{pos pos':Pos}(hN:X.N.Nodup)(hi:X.N[i]? =some x)(hx:Loc X.env.scope x)(he:QD X e f)(hs:swapsWith e (some (.Name x pos')) pos.line X.env=pure false:=by rfl)(hf:X.fn x=true∨X.env.scope.names.lookup x=some .local:=by first | exact .inl rfl | exact .inr rfl | assumption):D8 X (.Assign [.Name x pos'] e pos) (i3 i f):=⟨Dz hN hi hx he.1 hs hf⟩
theorem Aj{i:Nat}{x:Str}{e:Expr}{f:aw→R (List D)}{pos pos':Pos}(hN:X.N.Nodup)(hi:X.N[i]? =some x)(hx:Loc X.env.scope x)(he:QN X e f)(hs:swapsWith e (some (.Name x pos')) pos.line X.env=pure false:=by rfl)(hf:X.fn x=true∨X.env.scope.names.lookup x=some .local:=by first | exact .inl rfl | exact .inr rfl | assumption):D8 X (.Assign [.Name x pos'] e pos) (ph i f):=⟨DG hN hi hx he.1 hs hf⟩
theorem vq{i:Nat}{x:Str}{e:Expr}{f:FD}{npos apos cpos pos:Pos}(hN:X.N[i]? =some x)(hv:Eg X.env.scope x)(he:QD X e f)(hd:(x==("__debug__":Str))=false:=by decide)(hcd:(x==("__classdict__":Str))=false:=by decide)(hs:starEach [e] X.env=(false,eval e X.env) ::starEach [] X.env:=by rfl)(hline:(apos.endLine==cpos.line)=true:=by rfl)(hfew:((backTo cpos (starEach [e] X.env)).all (fun x=>!x.1) && (backToKw cpos (keywordEach [] X.env)).all (fun x=>x.1.isSome)
 && decide (([e]:List Expr).length+([]:List Keyword).length+(if([]:List Keyword).isEmpty then 0 else 1) < 30))=true:=by rfl) (hsw:swapsWith (.Call (.Attribute (.Name x npos) "append" apos) [e] [] cpos) none pos.line X.env=pure false:=by rfl) (hbase:attributeBase (.Name x npos) "append" X.env (eval (.Name x npos) X.env)=eval (.Name x npos) X.env:=by rfl):D8 X (.Expr (.Call (.Attribute (.Name x npos) "append" apos) [e] [] cpos) pos) (nu i f):=⟨CP hN hv he.1 hd hcd hs hline hfew hsw hbase⟩
theorem Be(i:Nat){sts:List Stmt}{F:FS}(h:q_ X sts F):q_ X sts (oX i F):=⟨Ee i h.1⟩
theorem aU{e:Expr}{f:FD}{pos:Pos}(he:QD X e f):D8 X (.Return (some e) pos) (cJ f):=⟨DM he.1⟩
theorem cg{c:Expr}{a b:List Stmt}{fc:aw→R Bool}{F G:FS}{pos:Pos}(hc:QB X c fc)(ha:q_ X a F)(hb:q_ X b G):D8 X (.If c a b pos) (jK fc F G):=⟨Fp hc.1 ha.1 hb.1⟩
theorem bx{i:Nat}{x:Str}{pos:Pos}(hN:X.N.Nodup)(hi:X.N[i]? =some x)(hx:Loc X.env.scope x)(hf:X.fn x=true∨X.env.scope.names.lookup x=some .local:=by first | exact .inl rfl | exact .inr rfl | assumption):GZ X (.Name x pos) (bw i):=⟨As hN hi hx hf⟩
theorem lB:Dh X [] jl:=⟨A4⟩
theorem d9{e:Expr}{es:List Expr}{t:FT}{u:BK}(h1:GZ X e t)(h2:Dh X es u)(hs:(assignEach (e ::es) X.env).map (·.2)=assign e X.env ::(assignEach es X.env).map (·.2):=by rfl):Dh X (e ::es) (d6 t u):=⟨zE h1.1 h2.1 hs⟩
theorem m_{es:List Expr}{k:Nat}{t:BK}{n:Nat}{pos:Pos}(hc:X.calm=true)(h:Dh X es t)(hn:(assignEach es X.env).length=n:=by rfl)(hst:(assignEach es X.env).findIdx? (·.1)=none:=by rfl):GZ X (.Tuple es k pos) (jf n t):=⟨DP hc h.1 hn hst⟩
theorem BZ{tg e:Expr}{f:FD}{t:FT}{pos:Pos}(he:QD X e f)(hg:GZ X tg t)(hs:swapsWithSole [tg] e pos.line X.env=pure false:=by rfl)(hw:swappedStores [tg] e X.env=pure none:=by rfl)(h1:(assignEach [tg] X.env).map (·.2)=[assign tg X.env]:=by rfl):D8 X (.Assign [tg] e pos) (oV f t):=⟨DW he.1 hg.1 hs hw h1⟩
theorem cR{tg e:Expr}{f:FD}(h:QD X e f):yd X tg e (eJ f):=⟨DL h.1⟩
theorem cx{tg a:Expr}{f:FD}{p pos:Pos}(h:QD X a f)(hg:Gl X "range")(hm:X.mg "range"=none)(hs:starEach [a] X.env=[(false,eval a X.env)]:=by rfl):yd X tg (.Call (.Name "range" p) [a] [] pos) (ei f):=⟨wH h.1 hg hm hs⟩
theorem f_{tg iter:Expr}{body:List Stmt}{it:aw→R (List D)}{t:FT}{F:FS}{pos:Pos}(hp:PassesOwn (model X.prog X.w) X.A X.env X.xe)(hc:X.calm=true)(hi:yd X tg iter it)(hg:GZ X tg t)(hb:q_ X body F)(hs:∀x,foldedSetIterable iter X.env x=pure x:=by intro _;rfl):D8 X (.For tg iter body [] pos) (nL it t F):=⟨DY hp hc hi.1 hg.1 hb.1 hs⟩
theorem fG{scope:Scope}{own:List Str}{kp:List Nat}{kn:List Str}{tg iter elt:Expr}{ifs:List Expr}{it:aw→R (List D)}{t:FT}{c:aw→R Bool}{f:FD}{pos:Pos}(hc:X.calm=true)(C:cz X scope own kp kn)(hi:yd X tg iter it)(hg:∀fp s H,GZ (bN X scope (own++kn) fp s H) tg t)(hif:∀fp s H,FY (bN X scope (own++kn) fp s H) ifs c)(he:∀fp s H,QD (bN X scope (own++kn) fp s H) elt f)(hs:∀x,foldedSetIterable iter X.env x=pure x:=by intro _;rfl):QN X (.ListComp elt [⟨tg,iter,ifs,0⟩] scope pos) (il it t c f own kp):=⟨DR hc C hi.1 (fun fp s H=>(hg fp s H).1) (fun fp s H=>(hif fp s H).1) (fun fp s H=>(he fp s H).1) hs⟩
theorem eT:FY X [] oW:=⟨Ag⟩
theorem AL{e:Expr}{c:aw→R Bool}(h:QB X e c):FY X [e] c:=⟨Eb h.1⟩
theorem aC{a b:Expr}{fa fb:FD}{pos:Pos}(ha:QD X a fa)(hb:QD X b fb)(hs:pE b):QD X (.Subscript a b pos) (e2 ck fa fb):=⟨Ir ha.1 hb.1 hs⟩
theorem iY:QP X none g8:=⟨DD⟩
theorem gg{e:Expr}{f:FD}(h:QD X e f):QP X (some e) (gn f):=⟨DI h.1⟩
theorem kL{e:Expr}{lo hi:Option Expr}{f:FD}{fl fh:FO}{p2 pos:Pos}(he:QD X e f)(hl:QP X lo fl)(hh:QP X hi fh):QD X (.Subscript e (.Slice lo hi none p2) pos) (rS f fl fh):=⟨Hv he.1 hl.1 hh.1⟩
theorem rF{elts:List Expr}{k:Nat}{tpos:Pos}{a:Expr}{f:FD}{p pos:Pos}(h:QD X a f)(hg:Gl X "enumerate")(hm:X.mg "enumerate"=none)(hs:starEach [a] X.env=[(false,eval a X.env)]:=by rfl):yd X (.Tuple elts k tpos) (.Call (.Name "enumerate" p) [a] [] pos) (k8 f):=⟨uN h.1 hg hm hs⟩
theorem cj{P:Program}{w:World}{K:PySem.W.Frag}{mg:Str→Option Value}{base:Heap}{x qual:Str}{st:Stmt}{f:Addr}{fd:FuncData}{N ps:List Str}{k:Nat}{F:FS}{b:List Stmt}{sc:Scope}(hb:aq st=b)(hs:ah st=sc)(Fn:xU K x qual st f fd)(S:ba N ps sc)(hbody:∀(cdv:Value) (A:Around) (outer:List Env) (s:Shared) (H:Hp) (E:XK),d8 k (A.deeper (envOfC qual sc s.heap.objs.size f cdv))→
 q_ (qi rh P w K mg base N qual sc f cdv A outer s H E).Ct b F):hJ P w K mg base rh (k+1) f fd ps (yD K ps.length (lF N F)):=BH hb hs Fn S (fun cdv A outer s H E hr=>(hbody cdv A outer s H E hr).1)
theorem aX{g:List D→R D}{k j n:Nat}{x:Str}{p pos:Pos}{e:Expr}{es:List Expr}{fs:aw→R (List D)}(C:Callee X.prog X.w X.K X.mg X.base k x n g)(hr:d8 j X.A)(hkj:k≤j)(hg:Gl X x)(ha:Dl X (e ::es) fs)(hn:∀δ ds,fs δ= .ok ds→ds.length=n)(hdb:(x==("__debug__":Str))=false:=by decide)(he:starEach (e ::es) X.env=(false,eval e X.env) ::starEach es X.env:=by rfl)(hpl:(backTo pos (starEach es X.env)).any (·.1)=false:=by rfl):QD X (.Call (.Name x p) (e ::es) [] pos) (aA g fs):=⟨Ac C hr hkj hg ha.1 hn hdb he hpl⟩
theorem CN{keys:List (Option Expr)}{values:List Expr}{trs:List (TE × TE)}{dpos apos cpos:Pos}{e f:Expr}{fe ff:FD}{kvs:List (Key × V)}(hu:X.A.units+1 < cLine)(h:G4 X dpos keys values trs)(hall:keys.all (·.isSome)=true)(hl:keys.length=values.length)(h0:keys≠[])(hc:∀σ H Q,Q (kvs.map fun kv=>(kV kv.1,kv.2)) H→qx trs σ H Q)(hlen:kvs.length≤15)(he:QD X e fe)(hf:QD X f ff)(m:M2 X (.Dict keys values dpos) "get" apos e f cpos)(hd:PE X (.Dict keys values dpos) (Bd trs)):QD X (.Call (.Attribute (.Dict keys values dpos) "get" apos) [e,f] [] cpos) (GS kvs fe ff):=⟨ED hu h hall hl h0 hc hlen he.1 hf.1 m hd⟩
end
end L2
end
section
set_option maxRecDepth 100000
set_option maxHeartbeats 4000000
namespace L2
open PySem PySem.Spec PyProof.Rows
theorem y6{P:Program}{w:World}{K:PySem.W.Frag}{mg mb:Str→Option Value}{CX:B5}{k:Nat}{fa a:Addr}{fd:FuncData}{x:Str}{sp:Sp}{s₁:Shared}{vs:List Value}{ns:List Int}
 (KX:K.In s₁.heap) (hns:s₁.heap.Ns mainGlobals mg) (hb:s₁.heap.Ns builtinsNs mb) (hbb:∀x:Str,x≠"__name__"→mb x=bootBuiltins x) (hlim:s₁.heap.NoLimit) (hg:s₁.gens=#[])
 (ha:s₁.heap.get? a=some {cls:= .type "list",data:= .seq vs.toArray}) (hi:IntsAre vs ns) (hl:ns.length≤sizeLine) (hr:d8 k callerA)
 (F:∀base:Heap,K.In base→base.Ns mainGlobals mg→hJ P w K mg base CX k fa fd [x] sp) (hbind:∀(s:Shared) (u:Value),BindsTo s fd ⟨[u],[]⟩ [(x,u)])
 (hsp:∀H:Hp,Hn H→qV K [] H a (ns.map V.int)→sp [.ref a] H (fun v _=>v= .bl true) fun _ _ _=>False)
 (hCX:∀H e s',CX [] H s₁ (fun _ _ _=>False) e s'→False) :
 codeAny (model P w) callerA (.call (.ref fa) ⟨[.ref a],[]⟩) (fun r s'=>r= .ok (.ret (.bool true))∧OldK s₁.heap s'.heap∧s'.os=s₁.os∧AllBare s'.gens) s₁:=by
 have rv:=rV hi
 have lenV:=hi.length
 have core:∀H:Hp,Hn H→qV K [] H a (ns.map V.int)→mq P w H s₁.heap→(∀b,H b≠none→b=a)→(H a≠none→K.lookup a=none)→
  codeAny (model P w) callerA (.call (.ref fa) ⟨[.ref a],[]⟩) (fun r s'=>r= .ok (.ret (.bool true))∧OldK s₁.heap s'.heap∧s'.os=s₁.os∧AllBare s'.gens) s₁:=by
  intro H hO hS hok hA hK
  have base_of:∀{b:Addr} {o:Obj},s₁.heap.get? b=some o→H b=none→(tj s₁.heap H).get? b=some o:=fun e n=>Bj e n
  have noA:∀{b:Addr} {o:Obj} {es:Array DictEntry} {ep:Nat},s₁.heap.get? b=some o→o.data= .dict es ep→H b=none:=fun {b o es ep} e d=>by
   cases q:H b with
   | none=>rfl
   | some u=>
     have e':b=a:=hA b (by rw[q];simp)
     subst e'
     rw[ha] at e;cases e
     have d':Data.seq vs.toArray _=Data.dict es ep:=d
     cases d'
  have nsK:∀{b:Addr} {m:Str→Option Value},s₁.heap.Ns b m→(tj s₁.heap H).Ns b m:=fun {b m} ⟨o,es,ep,e,d,r⟩=>⟨o,es,ep,base_of e (noA e d),d,r⟩
  have hKb:K.In (tj s₁.heap H):=fun b o e=>base_of (KX b o e) (by
   cases q:H b with
   | none=>rfl
   | some u=>
     have e':b=a:=hA b (by rw[q];simp)
     subst e'
     rw[hK (by rw[q];simp)] at e;cases e)
  have hM:Mod K mg (tj s₁.heap H):=⟨hKb,nsK hns,⟨mb,nsK hb,hbb⟩,let⟨mc,h1,h2⟩:=hlim;⟨mc,nsK h1,h2⟩⟩
  have e0:xg P w K mg (tj s₁.heap H) callerA [] s₁ H:=⟨rfl,hM,fun b o e=>Dx e,Nat.le_of_eq (zi _ _),trivial,fun b hb=>absurd (show b∈([]:List Addr) from hb) (by simp),hok, .of_eq hg⟩
  refine codeAny_mono ((F _ hKb (nsK hns)).run callerA [] s₁ H ⟨[.ref a],[]⟩ [.ref a] [.ref a] _ _ hr e0 (hbind s₁ (.ref a)) (.cons rfl .nil) (hsp H hO hS)) fun r s' h=>?_
  cases r with
  | error e=>exact(hCX H e s' h).elim
  | ok fl=>
    cases fl with
    | next=>exact False.elim h
    | brk=>exact False.elim h
    | cont=>exact False.elim h
    | ret u=>
      obtain⟨v,H',os,bare,un,hok',r',q⟩:=h
      have q':v= .bl true:=q
      subst q'
      obtain rfl:u=Value.bool true:=r'
      refine⟨rfl,OldK.of_keep fun b o e=>?_,os,bare⟩
      cases q:H b with
      | none=>exact un.keep b o e q (by intro z;exact absurd (show b∈([]:List Addr) from z) (by simp)) (by simp)
      | some u=>
        rcases hO b with z | ⟨ob,xs,z⟩
        ·rw[q] at z;cases z
        ·have z2:=un.frzs b ob _ z
         obtain⟨e1,_⟩:=hok b _ z
         obtain⟨e2,_⟩:=hok' b _ z2
         rw[e] at e1;cases e1
         exact e2
 cases hk:K.lookup a with
 | some o=>
   have e:=KX a o hk
   rw[ha] at e
   cases e
   refine core (fun _=>none) (fun _=> .inl rfl) (.inr ⟨vs,_,hk,by rw[List.length_map];exact hl,rv⟩) (fun b u z=>by have z':(none:Option HO)=some u:=z;cases z') (fun b z=>absurd rfl z) fun z=>absurd rfl z
 | none=>
   refine core (fun b=>if b=a then some (.iA {cls:= .type "list",data:= .seq vs.toArray} (.lst (ns.map V.int))) else none) (fun b=>?_) (.inl ⟨by simp, .inr ⟨{cls:= .type "list",data:= .seq vs.toArray},if_pos rfl⟩⟩) (fun b u z=>?_) (fun b z=>?_) fun _=>hk
   ·by_cases hb:b=a
    ·exact .inr ⟨_,_,if_pos hb⟩
    ·exact .inl (if_neg hb)
   ·by_cases hb:b=a
    ·have z':=(if_pos hb).symm.trans z
     cases z'
     subst hb
     exact⟨ha,by rw[List.length_map];exact hl,vs,_,rv,ha⟩
    ·have z':=(if_neg hb).symm.trans z
     cases z'
   ·by_cases hb:b=a
    ·exact hb
    ·exact absurd (if_neg hb) z
theorem ints_rep{K:PySem.W.Frag}{B:List Addr}{H:Hp}:∀ns:List Int,aH K B H (ns.map D.int) (ns.map V.int)
 | []=>aH.nil
 | n ::ns=>aH.cons (Rep.int.mpr rfl) (ints_rep ns)
theorem Ij{l:PySem.W.OpenLaw}{n k:Nat}{q:Program}{loose:List Str}{XP:(Str→Option Value)→Heap→Prop}{YP:World→Heap→Prop}{d:DefRec}{K:Params→PySem.W.Frag}{x:Str}{g:List D→R D}
 (hn:l.most=some n) (hn2:n≤sizeLine) (hdf:d.params.defaults=[]) (hr:d8 k callerA) (hY:∀(w:World) (h:Heap),YP w h→(K w.params).In h)
 (F:∀(w:World) (mg:Str→Option Value) (fa:Addr) (h:Heap),(K w.params).In h→h.Ns mainGlobals mg→mg d.name=some (.ref fa)→
   ∃fd:FuncData,(∀(s:Shared) (u:Value),BindsTo s fd ⟨[u],[]⟩ [(x,u)])∧∀base:Heap,(K w.params).In base→base.Ns mainGlobals mg→hJ l.prog w (K w.params) mg base rh k fa fd [x] (yD (K w.params) 1 g))
 (hg:∀ns:List Int,ns.length≤n→g [.lst (ns.map D.int)]= .ok (.bl true)):PySem.W.WalkO q loose XP YP l.row.toRowW d [] (fun f vs=>PySem.call f vs):=by
 refine Att.u_ hn hdf fun w s₀ s₁ mg mb fa o pm cd doc a vs ns G Y ho hd hcd hmg hobj hints hlen hgen=>?_
 have KX:=hY w _ Y
 obtain⟨fd,hb,hF⟩:=F w mg fa _ KX G.T.g hmg
 refine y6 KX G.T.g G.T.b G.T.builtins G.T.nolimit hgen hobj hints (Nat.le_trans hlen hn2) hr hF hb (fun H hO hS=>?_) fun H e s' h=>h
 refine⟨rfl,[],[.lst (ns.map D.int)], .bl true,fun b hb=>(by cases hb),aH.cons (Rep.lst.mpr ⟨_,_,rfl,hS,ints_rep ns⟩) aH.nil,hg ns hlen,fun z H' _ r=>Rep.bl.mp r⟩
theorem cb{K:PySem.W.Frag}{h:Heap}{mg:Str→Option Value}{x:Str}{st:Stmt}{f:Addr}{oc:Value}{od an:Option Addr}{osl:Array (Option Value)}{kV doc pm cdv ct:Value}(X:K.In h)(G:h.Ns mainGlobals mg)(a:PySem.W.nsIn K mainGlobals x=some (some (.ref f)))
 (l:K.lookup f=some ⟨oc,od, .func (PySem.W.fnOf x x (ix st) (aq st) (ah st) .none kV doc pm an cdv ct),osl⟩) (c:PySem.W.codeIn K cdv x=true) (k:PySem.W.keepIn K (.ref f)=true):Def K mg x st:=
 ⟨f,_,pW l c k,PySem.W.mg_of X G a⟩
end L2
end
section
set_option maxRecDepth 100000
set_option maxHeartbeats 4000000
namespace L2
open PySem PySem.Spec PyProof.Rows
theorem qU{t:FT}{body:FS}:∀(ds:List D) (n:Nat) (P:Nat→aw→Prop) {δ:aw},P n δ→
 (∀i d δ,ds[i]? =some d→P (n+i) δ→∃δ',((t d δ).bind body)= .ok (.nx δ')∧P (n+i+1) δ')→∃δ',mF t body ds δ= .ok (.nx δ')∧P (n+ds.length) δ'
 | [],n,P,δ,h0,_=>⟨δ,rfl,h0⟩
 | d ::ds,n,P,δ,h0,hs=>by
   obtain⟨δ1,e1,p1⟩:=hs 0 d δ rfl h0
   obtain⟨δ2,e2,p2⟩:=qU ds (n+1) P p1 (fun i d' δ' hi hp=>by
    have:=hs (i+1) d' δ' (by simpa using hi) (by rw[show n+(i+1)=n+1+i by omega];exact hp)
    rw[show n+(i+1)+1=n+1+i+1 by omega] at this
    exact this)
   refine⟨δ2,?_,by rw[List.length_cons,show n+(ds.length+1)=n+1+ds.length by omega];exact p2⟩
   obtain⟨δ0,h1,h2⟩:=R.ak e1
   show(t d δ).bind (fun δ1=>(body δ1).bind fun o=>match o with | .nx δ2=>mF t body ds δ2 | .rt r=> .ok (.rt r))=_
   rw[h1,R.aV,h2,R.aV]
   exact e2
theorem gJ{t:FT}{body:FS}{ds:List D}(P:Nat→aw→Prop){δ:aw}(h0:P 0 δ)
 (hs:∀i d δ,ds[i]? =some d→P i δ→∃δ',((t d δ).bind body)= .ok (.nx δ')∧P (i+1) δ'):∃δ',mF t body ds δ= .ok (.nx δ')∧P ds.length δ':=by
 have:=qU (t:=t) (body:=body) ds 0 P h0 (fun i d δ hi hp=>by simpa using hs i d δ hi (by simpa using hp))
 simpa using this
theorem Ar{α:Type} [DecidableEq α]:∀(L F:List α),L.Nodup→(∀x∈L,x∈F)→L.length≤F.length
 | [],_,_,_=>Nat.zero_le _
 | x ::L,F,hn,hs=>by
   obtain⟨h1,h2⟩:=List.nodup_cons.mp hn
   have hx:x∈F:=hs x List.mem_cons_self
   have ih:=Ar L (F.erase x) h2 (fun y hy=>(List.mem_erase_of_ne (fun(e:y=x)=>h1 (by rw[←e];exact hy))).mpr (hs y (List.mem_cons_of_mem _ hy)))
   rw[List.length_erase_of_mem hx] at ih
   have:0 < F.length:=List.length_pos_of_mem hx
   rw[List.length_cons]
   omega
theorem jw{α:Type}{xs:List α}{i:Int}(h0:0≤i)(h:i.toNat < xs.length):oe xs i=some xs[i.toNat]:=by
 unfold oe qp
 rw[if_pos h0,if_pos (by omega)]
 simp [h]
theorem strs_map:∀ss:List Str,strs? (ss.map D.str)=some ss
 | []=>rfl
 | s ::ss=>by show(strs? (ss.map D.str)).map (s ::·)=_;rw [strs_map ss];rfl
theorem ints_map:∀ss:List Int,ints? (ss.map D.int)=some ss
 | []=>rfl
 | s ::ss=>by show(ints? (ss.map D.int)).map (s ::·)=_;rw [ints_map ss];rfl
theorem Dr{a b:Str}(h:a.cps.toList=b.cps.toList):a=b:=by
 obtain⟨a⟩:=a;obtain⟨b⟩:=b
 congr 1
 exact Array.toList_inj.mp h
theorem pB(a b:Str):(a++b).cps.toList=a.cps.toList++b.cps.toList:=by
 show(a.cps++b.cps).toList=_
 simp
theorem bc{F G:FS}{δ δ1:aw}{r:R Out}(h:F δ= .ok (.nx δ1))(h2:G δ1=r):cQ F G δ=r:=by unfold cQ;rw [h,R.aV];exact h2
theorem et{f:aw→R (List D)}{δ:aw}{ds:List D}(h:f δ= .ok ds):eNew f δ= .ok (.lst ds):=by unfold eNew;rw [h];rfl
theorem mT{c:aw→R Bool}{F G:FS}{δ:aw}{r:R Out}(h:c δ= .ok true)(h2:F δ=r):jK c F G δ=r:=by unfold jK;rw [h,R.aV,if_pos rfl];exact h2
theorem di{c:aw→R Bool}{F G:FS}{δ:aw}{r:R Out}(h:c δ= .ok false)(h2:G δ=r):jK c F G δ=r:=by unfold jK;rw [h,R.aV,if_neg (by decide)];exact h2
theorem i_{it:aw→R (List D)}{t:FT}{F:FS}{δ:aw}{ds:List D}{r:R Out}(h:it δ= .ok ds)(h2:mF t F ds δ=r):nL it t F δ=r:=by unfold nL;rw [h,R.aV];exact h2
theorem cL{f:FD}{δ:aw}{d:D}(h:f δ= .ok d):cJ f δ= .ok (.rt d):=by unfold cJ;rw [h];rfl
theorem dh{N:List Str}{F:FS}{ds:List D}{d:D}(h:F (cW N ds)= .ok (.rt d)):lF N F ds= .ok d:=by unfold lF;rw [h];rfl
theorem cc{α:Type}{p:Prop} [Decidable p](r:R α)(h:p):R.bZ (decide p) r=r:=by rw[decide_eq_true h];rfl
theorem gR{i:Nat}{f:FD}{δ:aw}{d:D}(h:f δ= .ok d)(hi:i < δ.length):i3 i f δ= .ok (.nx (δ.set i (.val d))):=by unfold i3;rw [h,R.aV,cc _ hi]
theorem xn{i:Nat}{f:FD}{δ:aw}{d:D}{ds:List D}(h:f δ= .ok d)(hb:δ[i]? =some (.bld ds))(hl:ds.length < sizeLine):nu i f δ= .ok (.nx (δ.set i (.bld (ds++[d])))):=by unfold nu jr;rw [h,R.aV,hb];show R.bZ _ _=_;rw [cc _ hl]
theorem gh{it:aw→R (List D)}{t:FT}{c:aw→R Bool}{f:FD}{own:List Str}{kp:List Nat}{δ:aw}{ds ys:List D}(h1:it δ= .ok ds)(h2:ds.length≤sizeLine)(h3:m8 t c f (qO own kp δ) ds= .ok ys):il it t c f own kp δ= .ok ys:=by unfold il;rw [h1,R.aV,cc _ h2,h3]
theorem jA{ds:List D}{i:Int}{d:D}(h:oe ds i=some d):ck (.lst ds) (.int i)= .ok d:=by unfold ck;simp only[h]
theorem nW{ds:List D}{i:Int}{d:D}(h:oe ds i=some d):ck (.tup ds) (.int i)= .ok d:=by unfold ck;simp only[h]
theorem BU{x:Str}{i:Int}{c:Nat}(hz:x.length≤sizeLine)(h:oe x.cps.toList i=some c):ck (.str x) (.int i)= .ok (.str ⟨#[c]⟩):=by unfold ck;simp only[h,cc _ hz]
end L2
end
section
set_option maxRecDepth 100000
namespace L2
open PySem PySem.Spec PyProof.Rows
theorem aJ{g:D→D→R D}{fa fb:FD}{δ:aw}{a b:D}{r:R D}(ha:fa δ= .ok a)(hb:fb δ= .ok b)(h:g a b=r):e2 g fa fb δ=r:=by unfold e2;rw [ha,R.aV,hb,R.aV];exact h
theorem ij{g:D→D→R D}{fa fb:FD}{δ:aw}{a b:D}{k:Bool}(ha:fa δ= .ok a)(hb:fb δ= .ok b)(h:g a b= .ok (.bl k)):b2 g fa fb δ= .ok k:=by unfold b2;rw [aJ ha hb h];rfl
theorem aN{f:FD}{g:aw→R (List D)}{δ:aw}{d:D}{ds:List D}(h:f δ= .ok d)(h2:g δ= .ok ds):ao f g δ= .ok (d ::ds):=by unfold ao;rw [h,R.aV,h2];rfl
theorem aP{g:List D→R D}{fs:aw→R (List D)}{δ:aw}{ds:List D}{r:R D}(h:fs δ= .ok ds)(h2:g ds=r):aA g fs δ=r:=by unfold aA;rw [h,R.aV];exact h2
theorem ur{f:FD}{δ:aw}{d:D}(h:f (kj δ)= .ok d)(ha:d.atom=true):jb f δ= .ok d:=by unfold jb;rw [h,R.aV,ha];rfl
theorem i5{g:aw→R (List D)}{δ:aw}{ds:List D}(h:g δ= .ok ds)(hl:ds.length≤sizeLine):fA g δ= .ok (.tup ds):=by unfold fA;rw [h,R.aV,cc _ hl]
theorem m4{g:aw→R (List D)}{δ:aw}{ds:List D}(h:g δ= .ok ds)(hl:ds.length≤sizeLine):dk g δ= .ok ds:=by unfold dk;rw [h,R.aV,cc _ hl]
theorem Dj{g:D→List D→R D}{f:FD}{fs:aw→R (List D)}{δ:aw}{x:Str}{ds:List D}{r:R D}(h:f δ= .ok (.str x))(h2:fs δ= .ok ds)(h3:g (.str x) ds=r):yJ "str" g f fs δ=r:=by
 unfold yJ;rw [h,R.aV,h2,R.aV];exact h3
theorem kK{f:FD}{fl fh:FO}{δ:aw}{d:D}{lo hi:Option Int}{r:R D}(h:f δ= .ok d)(h1:fl δ= .ok lo)(h2:fh δ= .ok hi)(h3:DS d lo hi=r):rS f fl fh δ=r:=by unfold rS;rw [h,R.aV,h1,R.aV,h2,R.aV];exact h3
theorem EW{x:Str}{lo hi:Option Int}(h:x.length≤sizeLine):DS (.str x) lo hi= .ok (.str (Txt.slice x lo hi)):=by unfold DS;exact cc _ h
theorem xC{a b:Str}(h:a.length+b.length≤sizeLine):dH (.str a) (.str b)= .ok (.str (a++b)):=by unfold dH;exact cc _ h
theorem lx{a b:List D}(h:a.length+b.length≤sizeLine):dH (.lst a) (.lst b)= .ok (.lst (a++b)):=by unfold dH;exact cc _ h
theorem wY{a b:Int}(h:0 < b):g9 (.int a) (.int b)= .ok (.int (a % b)):=by unfold g9 ue;exact cc _ h
theorem eU{f:FD}{δ:aw}{n:Nat}(h:f δ= .ok (.int n))(hn:n < 1000000):ei f δ= .ok (b_ 0 n):=by
 unfold ei;rw [h,R.aV];show R.bZ (decide (-(2 ^ 62)≤(n:Int)∧(n:Int) < 2 ^ 62)) _=_
 rw[cc _ ⟨by omega,by omega⟩,Int.toNat_natCast]
theorem mh{f:FD}{δ:aw}{ds:List D}(h:f δ= .ok (.lst ds)):eJ f δ= .ok ds:=by unfold eJ;rw [h];rfl
theorem vM{f:FD}{δ:aw}{ds:List D}(h:f δ= .ok (.tup ds)):eJ f δ= .ok ds:=by unfold eJ;rw [h];rfl
theorem FW{f:FD}{δ:aw}{ds:List D}(h:f δ= .ok (.lst ds)):k8 f δ= .ok (ft ds):=by unfold k8;rw [h];rfl
theorem kF(ds:List D):cO [.lst ds]= .ok (.int ds.length):=rfl
end L2
end
section
set_option maxRecDepth 100000
set_option maxHeartbeats 4000000
namespace L3
open PySem PySem.Spec PyProof.Rows L2
inductive V3 where
 | d (x:D) | loc (k:Nat) | lst (vs:List V3) | tup (vs:List V3)
inductive SO where
 | lst (ds:List D) | dct (kvs:List (Key × D)) | ins (c:Nat) (fs:List (Str × V3)) | iA
noncomputable abbrev aS:=List SO
inductive R3 (α:Type) where
 | ok (a:α) (S:aS) | ex (c:Nat) (S:aS) | no
noncomputable def R3.bind{α β:Type}:R3 α→(α→aS→R3 β)→R3 β
 | .ok a S,f=>f a S
 | .ex c S,_=> .ex c S
 | .no,_=> .no
theorem R3.ak{α β:Type}{r:R3 α}{f:α→aS→R3 β}{b:β}{S':aS}(h:r.bind f= .ok b S'):∃a S,r= .ok a S∧f a S= .ok b S':=by
 cases r with
 | ok a S=>exact⟨a,S,rfl,h⟩
 | ex c S=>cases h
 | no=>cases h
@[simp] theorem R3.aV{α β:Type}(a:α)(S:aS)(f:α→aS→R3 β):(R3.ok a S).bind f=f a S:=rfl
noncomputable def R3.bZ{α:Type}(c:Bool)(r:R3 α):R3 α:=if c then r else .no
theorem R3.bo{α:Type}{c:Bool}{r:R3 α}{a:α}{S:aS}(h:R3.bZ c r= .ok a S):c=true∧r= .ok a S:=by
 cases c with
 | true=>exact⟨rfl,h⟩
 | false=>cases h
noncomputable def R3.of{α:Type}(r:R α)(S:aS):R3 α:=match r with | .ok a=> .ok a S | _=> .no
theorem R3.of_ok{α:Type}{r:R α}{S S':aS}{a:α}(h:R3.of r S= .ok a S'):r= .ok a∧S'=S:=by
 cases r with
 | ok b=>cases h;exact⟨rfl,rfl⟩
 | ex c=>cases h
 | no=>cases h
structure P3 where
 r:List Addr
 z:List Addr
 f:List Addr
noncomputable def P3.b(ρ:P3):List Addr:=ρ.r.filter (fun a=>!ρ.f.contains a)++ρ.z
theorem P3.cy{ρ:P3}{a:Addr}:a∈ρ.b↔(a∈ρ.r∧a ∉ ρ.f)∨a∈ρ.z:=by
 unfold P3.b
 rw[List.mem_append,List.mem_filter]
 simp
noncomputable def P3.push(ρ:P3)(a:Addr):P3:=⟨ρ.r++[a],ρ.z,ρ.f⟩
noncomputable def P3.cut(ρ:P3)(n:Nat):P3:=⟨ρ.r.take n,ρ.z,ρ.f⟩
mutual
noncomputable def bp(K:PySem.W.Frag)(ρ:P3)(H:Hp):V3→V→Prop
 | .d x,v=>Rep K ρ.b H x v
 | .loc k,v=>∃a,ρ.r[k]? =some a∧v= .ref a
 | .lst vs,v=>∃a xs,v= .ref a∧qV K ρ.b H a xs∧aF K ρ H vs xs
 | .tup vs,v=>∃a xs,v= .ref a∧tp K ρ.b H a xs∧aF K ρ H vs xs
noncomputable def aF(K:PySem.W.Frag)(ρ:P3)(H:Hp):List V3→List V→Prop
 | [],xs=>xs=[]
 | d ::ds,xs=>∃x r,xs=x ::r∧bp K ρ H d x∧aF K ρ H ds r
end
structure Pre (ρ:P3) (H:Hp) (ρ':P3) (H':Hp):Prop where
 br:dR ρ.b H ρ'.b H'
 zz:ρ'.z=ρ.z
 zs:∀(b:Addr) (o:HO),b∈ρ.z→H b=some o→H' b=some o
 ext:∀(k:Nat) (a:Addr),ρ.r[k]? =some a→ρ'.r[k]? =some a
theorem Pre.refl(ρ:P3)(H:Hp):Pre ρ H ρ H:=⟨dR.refl ρ.b H,rfl,fun _ _ _ h=>h,fun _ _ h=>h⟩
theorem Pre.trans{ρ ρ' ρ'':P3}{H H' H'':Hp}(a:Pre ρ H ρ' H')(b:Pre ρ' H' ρ'' H''):Pre ρ H ρ'' H'':=⟨a.br.trans b.br,b.zz.trans a.zz,fun c o hc h=>b.zs c o (by rw[a.zz];exact hc) (a.zs c o hc h),fun k x h=>b.ext k x (a.ext k x h)⟩
theorem Pre.same{ρ:P3}{H H':Hp}(s:aY H H'):Pre ρ H ρ H':=⟨dR.same s,rfl,fun b o _ h=>s b o h,fun _ _ h=>h⟩
theorem tp.br{K:PySem.W.Frag}{B B':List Addr}{H H':Hp}(p:dR B H B' H'){a:Addr}{xs:List V}(l:tp K B H a xs):tp K B' H' a xs:=
 l.elim (fun z=> .inl ⟨(p.rd z.2 z.1).2,(p.rd z.2 z.1).1⟩) .inr
mutual
theorem bp.pre{K:PySem.W.Frag}{ρ ρ':P3}{H H':Hp}(p:Pre ρ H ρ' H'):∀{d:V3} {v:V},bp K ρ H d v→bp K ρ' H' d v
 | .d x,v,h=>by unfold bp at h ⊢;exact h.br p.br
 | .loc k,v,h=>by unfold bp at h ⊢;obtain⟨a,h1,h2⟩:=h;exact⟨a,p.ext k a h1,h2⟩
 | .lst vs,v,h=>by unfold bp at h ⊢;obtain⟨a,xs,e,l,r⟩:=h;exact⟨a,xs,e,l.br p.br,aF.pre p r⟩
 | .tup vs,v,h=>by unfold bp at h ⊢;obtain⟨a,xs,e,l,r⟩:=h;exact⟨a,xs,e,tp.br p.br l,aF.pre p r⟩
theorem aF.pre{K:PySem.W.Frag}{ρ ρ':P3}{H H':Hp}(p:Pre ρ H ρ' H'):∀{ds:List V3} {xs:List V},aF K ρ H ds xs→aF K ρ' H' ds xs
 | [],_,h=>by unfold aF at h ⊢;exact h
 | d ::ds,xs,h=>by
   unfold aF at h ⊢
   obtain⟨x,r,e,h1,h2⟩:=h
   exact⟨x,r,e,bp.pre p h1,aF.pre p h2⟩
end
structure PW (ρ:P3) (H:Hp) (ρ':P3) (H':Hp):Prop where
 br:dR ρ.b H ρ'.b H'
 ext:∀(k:Nat) (a:Addr),ρ.r[k]? =some a→ρ'.r[k]? =some a
theorem Pre.pw{ρ ρ':P3}{H H':Hp}(p:Pre ρ H ρ' H'):PW ρ H ρ' H':=⟨p.br,p.ext⟩
theorem PW.trans{ρ ρ' ρ'':P3}{H H' H'':Hp}(a:PW ρ H ρ' H')(b:PW ρ' H' ρ'' H''):PW ρ H ρ'' H'':=⟨a.br.trans b.br,fun k x h=>b.ext k x (a.ext k x h)⟩
mutual
theorem bp.pw{K:PySem.W.Frag}{ρ ρ':P3}{H H':Hp}(p:PW ρ H ρ' H'):∀{d:V3} {v:V},bp K ρ H d v→bp K ρ' H' d v
 | .d x,v,h=>by unfold bp at h ⊢;exact h.br p.br
 | .loc k,v,h=>by unfold bp at h ⊢;obtain⟨a,h1,h2⟩:=h;exact⟨a,p.ext k a h1,h2⟩
 | .lst vs,v,h=>by unfold bp at h ⊢;obtain⟨a,xs,e,l,r⟩:=h;exact⟨a,xs,e,l.br p.br,aF.pw p r⟩
 | .tup vs,v,h=>by unfold bp at h ⊢;obtain⟨a,xs,e,l,r⟩:=h;exact⟨a,xs,e,tp.br p.br l,aF.pw p r⟩
theorem aF.pw{K:PySem.W.Frag}{ρ ρ':P3}{H H':Hp}(p:PW ρ H ρ' H'):∀{ds:List V3} {xs:List V},aF K ρ H ds xs→aF K ρ' H' ds xs
 | [],_,h=>by unfold aF at h ⊢;exact h
 | d ::ds,xs,h=>by
   unfold aF at h ⊢
   obtain⟨x,r,e,h1,h2⟩:=h
   exact⟨x,r,e,bp.pw p h1,aF.pw p h2⟩
end
theorem aF.nil{K:PySem.W.Frag}{ρ:P3}{H:Hp}:aF K ρ H [] []:=by unfold aF;rfl
theorem aF.cons{K:PySem.W.Frag}{ρ:P3}{H:Hp}{d:V3}{ds:List V3}{x:V}{xs:List V}(h:bp K ρ H d x)(t:aF K ρ H ds xs):aF K ρ H (d ::ds) (x ::xs):=by
 unfold aF;exact⟨x,xs,rfl,h,t⟩
theorem aF.cu{K:PySem.W.Frag}{ρ:P3}{H:Hp}{d:V3}{ds:List V3}{xs:List V}(h:aF K ρ H (d ::ds) xs):∃x r,xs=x ::r∧bp K ρ H d x∧aF K ρ H ds r:=by
 unfold aF at h;exact h
theorem aF.length{K:PySem.W.Frag}{ρ:P3}{H:Hp}:∀{ds:List V3} {xs:List V},aF K ρ H ds xs→ds.length=xs.length
 | [],_,h=>by unfold aF at h;rw [h];rfl
 | d ::ds,xs,h=>by
   obtain⟨x,r,rfl,_,h2⟩:=h.cu
   simp [h2.length]
theorem aF.of{K:PySem.W.Frag}{ρ:P3}{H:Hp}:∀{ds:List D} {xs:List V},aH K ρ.b H ds xs→aF K ρ H (ds.map .d) xs
 | [],_,h=>by unfold aH at h;subst h;exact aF.nil
 | d ::ds,xs,h=>by
   obtain⟨x,r,rfl,h1,h2⟩:=h.cu
   exact aF.cons (by unfold bp;exact h1) (aF.of h2)
theorem aF.to{K:PySem.W.Frag}{ρ:P3}{H:Hp}:∀{ds:List D} {xs:List V},aF K ρ H (ds.map .d) xs→aH K ρ.b H ds xs
 | [],_,h=>by unfold aF at h;subst h;exact aH.nil
 | d ::ds,xs,h=>by
   obtain⟨x,r,rfl,h1,h2⟩:=aF.cu h
   unfold bp at h1
   exact aH.cons h1 (aF.to h2)
noncomputable def Ai(K:PySem.W.Frag)(cl:Nat→Addr)(ρ:P3)(H:Hp):SO→Option HO→Prop
 | .lst ds,h=>∃xs,h=some (.lst xs)∧aH K ρ.b H ds xs
 | .dct kvs,h=>∃ys,h=some (.dK ys)∧ys.map (·.1)=kvs.map (·.1)∧aH K ρ.b H (kvs.map (·.2)) (ys.map (·.2))
 | .ins c fs,h=>∃dx ys,h=some (.ins (cl c) dx ys)∧ys.map (·.1)=fs.map (·.1)∧aF K ρ H (fs.map (·.2)) (ys.map (·.2))
 | .iA,h=>∃u,h=some u
theorem Ai.pre{K:PySem.W.Frag}{cl:Nat→Addr}{ρ ρ':P3}{H H':Hp}(p:Pre ρ H ρ' H'){o:SO}{h:Option HO}(r:Ai K cl ρ H o h):Ai K cl ρ' H' o h:=by
 cases o with
 | lst ds=>obtain⟨xs,e,q⟩:=r;exact⟨xs,e,q.br p.br⟩
 | dct kvs=>obtain⟨ys,e,e2,q⟩:=r;exact⟨ys,e,e2,q.br p.br⟩
 | ins c fs=>obtain⟨dx,ys,e,e2,q⟩:=r;exact⟨dx,ys,e,e2,q.pre p⟩
 | iA=>exact r
theorem Ai.pw{K:PySem.W.Frag}{cl:Nat→Addr}{ρ ρ':P3}{H H':Hp}(p:PW ρ H ρ' H'){o:SO}{h:Option HO}(r:Ai K cl ρ H o h):Ai K cl ρ' H' o h:=by
 cases o with
 | lst ds=>obtain⟨xs,e,q⟩:=r;exact⟨xs,e,q.br p.br⟩
 | dct kvs=>obtain⟨ys,e,e2,q⟩:=r;exact⟨ys,e,e2,q.br p.br⟩
 | ins c fs=>obtain⟨dx,ys,e,e2,q⟩:=r;exact⟨dx,ys,e,e2,q.pw p⟩
 | iA=>exact r
theorem Ai.some{K:PySem.W.Frag}{cl:Nat→Addr}{ρ:P3}{H:Hp}{o:SO}{h:Option HO}(r:Ai K cl ρ H o h):∃u,h=some u:=by
 cases o with
 | lst ds=>obtain⟨xs,e,q⟩:=r;exact⟨_,e⟩
 | dct kvs=>obtain⟨ys,e,e2,q⟩:=r;exact⟨_,e⟩
 | ins c fs=>obtain⟨dx,ys,e,e2,q⟩:=r;exact⟨_,e⟩
 | iA=>exact r
structure SW (K:PySem.W.Frag) (cl:Nat→Addr) (ρ:P3) (H:Hp) (S:aS):Prop where
 len:ρ.r.length=S.length
 nd:∀(i j:Nat) (a:Addr),ρ.r[i]? =some a→ρ.r[j]? =some a→i=j
 ob:∀(k:Nat) (a:Addr) (o:SO),ρ.r[k]? =some a→S[k]? =some o→Ai K cl ρ H o (H a)
 zb:∀b∈ρ.z,(∃xs,H b=some (.lst xs))∧b ∉ ρ.r
 fz:∀(k:Nat) (a:Addr),ρ.r[k]? =some a→S[k]?≠some .iA→a ∉ ρ.f
 ff:∀a∈ρ.f,∃o,H a=some o
 fi:∀(k:Nat) (a:Addr),ρ.r[k]? =some a→S[k]? =some .iA→a∈ρ.f
theorem SW.rs{K:PySem.W.Frag}{cl:Nat→Addr}{ρ:P3}{H:Hp}{S:aS}(w:SW K cl ρ H S):∀a∈ρ.r,∃o,H a=some o:=fun a z=>by
 obtain⟨k,hk⟩:=List.getElem?_of_mem z
 have hl:=(List.getElem?_eq_some_iff.mp hk).1
 exact(w.ob k a _ hk (List.getElem?_eq_getElem (by rw[←w.len];exact hl))).some
theorem SW.bs{K:PySem.W.Frag}{cl:Nat→Addr}{ρ:P3}{H:Hp}{S:aS}(w:SW K cl ρ H S):∀a∈ρ.b,∃o,H a=some o:=fun a ha=>by
 rcases P3.cy.mp ha with z | z
 ·exact w.rs a z.1
 ·obtain⟨xs,h⟩:=(w.zb a z).1
  exact⟨_,h⟩
theorem SW.same{K:PySem.W.Frag}{cl:Nat→Addr}{ρ:P3}{H H':Hp}{S:aS}(w:SW K cl ρ H S)(s:aY H H'):SW K cl ρ H' S:=
 ⟨w.len,w.nd,fun k a o h1 h2=>by
   have r:=w.ob k a o h1 h2
   obtain⟨u,hu⟩:=r.some
   rw[s a u hu,←hu]
   exact r.pre (Pre.same s),fun b hb=>let⟨⟨o,ho⟩,n⟩:=w.zb b hb;⟨⟨o,s b _ ho⟩,n⟩,w.fz,fun a ha=>let⟨o,ho⟩:=w.ff a ha;⟨o,s a o ho⟩,w.fi⟩
theorem P3.mem_push{ρ:P3}{a b:Addr}(h:b∈(ρ.push a).b):b∈ρ.b∨b=a:=by
 rcases P3.cy.mp h with⟨z,n⟩ | z
 ·rcases List.mem_append.mp z with y | y
  ·exact .inl (P3.cy.mpr (.inl ⟨y,n⟩))
  ·exact .inr (List.mem_singleton.mp y)
 ·exact .inl (P3.cy.mpr (.inr z))
theorem SW.new{K:PySem.W.Frag}{cl:Nat→Addr}{ρ:P3}{H H':Hp}{S:aS}(w:SW K cl ρ H S){a:Addr}{o:SO}(s:aY H H')(n:H a=none)(r:Ai K cl (ρ.push a) H' o (H' a))(hne:o≠SO.iA:=by intro h;cases h) :
 SW K cl (ρ.push a) H' (S++[o])∧Pre ρ H (ρ.push a) H':=by
 have na:a ∉ ρ.b:=fun ha=>by obtain⟨o,ho⟩:=w.bs a ha;rw [n] at ho;cases ho
 have nr:a ∉ ρ.r:=fun ha=>by obtain⟨o,ho⟩:=w.rs a ha;rw [n] at ho;cases ho
 have nf:a ∉ ρ.f:=fun ha=>by obtain⟨o,ho⟩:=w.ff a ha;rw [n] at ho;cases ho
 have p:Pre ρ H (ρ.push a) H':=⟨fun b u e nb=>⟨s b u e,fun hb=>by
  rcases P3.mem_push hb with z | z
  ·exact nb z
  ·subst z;rw [n] at e;cases e⟩,rfl,fun b o _ h=>s b o h,fun k x hx=>by
   show(ρ.r++[a])[k]? =_
   rw[List.getElem?_append_left (List.getElem?_eq_some_iff.mp hx).1];exact hx⟩
 have last:∀(i:Nat) (b:Addr),(ρ.push a).r[i]? =some b→(i < ρ.r.length∧ρ.r[i]? =some b)∨(i=ρ.r.length∧b=a):=fun i b h=>by
  have h:(ρ.r++[a])[i]? =some b:=h
  by_cases q:i < ρ.r.length
  ·rw[List.getElem?_append_left q] at h;exact .inl ⟨q,h⟩
  ·rw[List.getElem?_append_right (by omega)] at h
   have h0:i - ρ.r.length=0:=by
    have:=(List.getElem?_eq_some_iff.mp h).1
    simp at this;omega
   rw[h0] at h
   cases h
   exact .inr ⟨by omega,rfl⟩
 refine⟨⟨by show(ρ.r++[a]).length=_;rw [List.length_append,List.length_append,w.len];rfl,fun i j b hi hj=>?_,fun k b u hk hu=>?_,fun b hb=>?_,fun k b hk hu=>?_,fun b hb=>?_,fun k b hk hu=>?_⟩,p⟩
 ·rcases last i b hi with⟨q1,q2⟩ | ⟨q1,rfl⟩
  ·rcases last j b hj with⟨z1,z2⟩ | ⟨z1,rfl⟩
   ·exact w.nd i j b q2 z2
   ·exact absurd (List.mem_of_getElem? q2) nr
  ·rcases last j b hj with⟨z1,z2⟩ | ⟨z1,z3⟩
   ·exact absurd (List.mem_of_getElem? z2) nr
   ·omega
 ·rcases last k b hk with⟨q1,q2⟩ | ⟨q1,rfl⟩
  ·rw[List.getElem?_append_left (by rw[←w.len];exact q1)] at hu
   have r0:=w.ob k b u q2 hu
   obtain⟨x,hx⟩:=r0.some
   rw[s b x hx,←hx]
   exact r0.pre p
  ·rw[List.getElem?_append_right (by rw[←w.len];omega),q1,w.len,Nat.sub_self] at hu
   cases hu
   exact r
 ·obtain⟨⟨o,ho⟩,nb⟩:=w.zb b hb
  refine⟨⟨o,s b _ ho⟩,fun h=>?_⟩
  rcases List.mem_append.mp h with y | y
  ·exact nb y
  ·rw[List.mem_singleton] at y;subst y;rw [n] at ho;cases ho
 ·rcases last k b hk with⟨q1,q2⟩ | ⟨q1,rfl⟩
  ·rw[List.getElem?_append_left (by rw[←w.len];exact q1)] at hu
   exact w.fz k b q2 hu
  ·exact nf
 ·obtain⟨o,ho⟩:=w.ff b hb
  exact⟨o,s b o ho⟩
 ·rcases last k b hk with⟨q1,q2⟩ | ⟨q1,rfl⟩
  ·rw[List.getElem?_append_left (by rw[←w.len];exact q1)] at hu
   exact w.fi k b q2 hu
  ·rw[List.getElem?_append_right (by rw[←w.len];omega),q1,w.len,Nat.sub_self] at hu
   cases hu
   exact absurd rfl hne
theorem SW.put{K:PySem.W.Frag}{cl:Nat→Addr}{ρ:P3}{H:Hp}{S:aS}(w:SW K cl ρ H S){k:Nat}{a:Addr}{o:SO}{u:HO}(hk:ρ.r[k]? =some a)(hf:a ∉ ρ.f)(r:Ai K cl ρ H o (some u))(hne:o≠SO.iA:=by intro h;cases h) :
 SW K cl ρ (upd H a u) (S.set k o)∧Pre ρ H ρ (upd H a u):=by
 have ha:a∈ρ.r:=List.mem_of_getElem? hk
 have hb:a∈ρ.b:=P3.cy.mpr (.inl ⟨ha,hf⟩)
 have nz:∀b∈ρ.z,b≠a:=fun b hb z=>(w.zb b hb).2 (by rw[z];exact ha)
 have p:Pre ρ H ρ (upd H a u):=⟨fun b x e nb=>⟨by rw[bg (fun(z:b=a)=>nb (by rw[z];exact hb))];exact e,nb⟩,rfl,fun b o hb h=>by rw[bg (nz b hb)];exact h,fun _ _ h=>h⟩
 have hl:k < S.length:=by rw[←w.len];exact(List.getElem?_eq_some_iff.mp hk).1
 refine⟨⟨by rw[List.length_set];exact w.len,w.nd,fun j b x hj hx=>?_,fun b hb=>?_,fun j b hj hx=>?_,fun b hb=>?_,fun j b hj hx=>?_⟩,p⟩
 ·by_cases q:k=j
  ·subst q
   rw[hk] at hj;cases hj
   rw[List.getElem?_set_self hl] at hx;cases hx
   rw[a_]
   exact r.pre p
  ·rw[List.getElem?_set_ne q] at hx
   have ne:b≠a:=fun z=>by subst z;exact q (w.nd k j b hk hj)
   rw[bg ne]
   exact(w.ob j b x hj hx).pre p
 ·obtain⟨⟨o,ho⟩,nb⟩:=w.zb b hb
  exact⟨⟨o,by rw[bg (nz b hb)];exact ho⟩,nb⟩
 ·by_cases q:k=j
  ·subst q
   rw[hk] at hj;cases hj
   exact hf
  ·rw[List.getElem?_set_ne q] at hx
   exact w.fz j b hj hx
 ·obtain⟨o,ho⟩:=w.ff b hb
  exact⟨o,by rw[bg (fun z=>hf (by rw[←z];exact hb))];exact ho⟩
 ·by_cases q:k=j
  ·subst q
   rw[List.getElem?_set_self hl] at hx;cases hx
   exact absurd rfl hne
  ·rw[List.getElem?_set_ne q] at hx
   exact w.fi j b hj hx
theorem SW.iA{K:PySem.W.Frag}{cl:Nat→Addr}{ρ:P3}{H:Hp}{S:aS}(w:SW K cl ρ H S){k:Nat}{a:Addr}{ds:List D}(hk:ρ.r[k]? =some a)(hS:S[k]? =some (.lst ds)) :
 SW K cl ⟨ρ.r,ρ.z,a ::ρ.f⟩ H (S.set k .iA)∧Pre ρ H ⟨ρ.r,ρ.z,a ::ρ.f⟩ H∧Rep K (⟨ρ.r,ρ.z,a ::ρ.f⟩:P3).b H (.lst ds) (.ref a):=by
 have hl:k < S.length:=by rw[←w.len];exact(List.getElem?_eq_some_iff.mp hk).1
 have sub:∀b,b∈(⟨ρ.r,ρ.z,a ::ρ.f⟩:P3).b→b∈ρ.b:=fun b hb=>by
  rcases P3.cy.mp hb with⟨z,n⟩ | z
  ·exact P3.cy.mpr (.inl ⟨z,fun h=>n (List.mem_cons_of_mem _ h)⟩)
  ·exact P3.cy.mpr (.inr z)
 have p:Pre ρ H ⟨ρ.r,ρ.z,a ::ρ.f⟩ H:=⟨fun b o e nb=>⟨e,fun hb=>nb (sub b hb)⟩,rfl,fun _ _ _ h=>h,fun _ _ h=>h⟩
 obtain⟨xs,e1,r1⟩:=w.ob k a _ hk hS
 refine⟨⟨by rw[List.length_set];exact w.len,w.nd,fun j b x hj hx=>?_,w.zb,fun j b hj hx=>?_,fun b hb=>?_,fun j b hj hx=>?_⟩,p,?_⟩
 ·by_cases q:k=j
  ·subst q
   rw[List.getElem?_set_self hl] at hx;cases hx
   rw[hk] at hj;cases hj
   exact⟨_,e1⟩
  ·rw[List.getElem?_set_ne q] at hx
   exact(w.ob j b x hj hx).pre p
 ·by_cases q:k=j
  ·subst q
   rw[List.getElem?_set_self hl] at hx
   exact absurd rfl hx
  ·rw[List.getElem?_set_ne q] at hx
   intro h
   rcases List.mem_cons.mp h with z | z
   ·subst z;exact q (w.nd k j b hk hj)
   ·exact w.fz j b hj hx z
 ·rcases List.mem_cons.mp hb with z | z
  ·subst z;exact⟨_,e1⟩
  ·exact w.ff b z
 ·by_cases q:k=j
  ·subst q
   rw[hk] at hj;cases hj
   exact List.mem_cons_self
  ·rw[List.getElem?_set_ne q] at hx
   exact List.mem_cons_of_mem _ (w.fi j b hj hx)
 ·refine Rep.lst.mpr ⟨a,xs,rfl, .inl ⟨fun hb=>?_, .inl e1⟩,r1.br p.br⟩
  rcases P3.cy.mp hb with⟨_,n⟩ | z
  ·exact n List.mem_cons_self
  ·exact(w.zb a z).2 (List.mem_of_getElem? hk)
mutual
noncomputable def jF:D→Bool
 | .lst _=>false
 | .dct _ _=>false
 | .tup ds=>jj ds
 | _=>true
noncomputable def jj:List D→Bool
 | []=>true
 | d ::ds=>jF d && jj ds
end
mutual
theorem Rep.sG{K:PySem.W.Frag}{B:List Addr}{H:Hp}(hB:∀b∈B,∀xs,¬Rd H b (.tup xs)):∀{d:D} {v:V},jF d=true→Rep K [] H d v→Rep K B H d v
 | .cI,v,_,r=>Rep.cI.mpr (Rep.cI.mp r)
 | .bl _,v,_,r=>Rep.bl.mpr (Rep.bl.mp r)
 | .int _,v,_,r=>Rep.int.mpr (Rep.int.mp r)
 | .str _,v,_,r=>Rep.str.mpr (Rep.str.mp r)
 | .lst _,v,h,_=>by unfold jF at h;cases h
 | .dct _ _,v,h,_=>by unfold jF at h;cases h
 | .tup ds,v,h,r=>by
   unfold jF at h
   obtain⟨a,xs,rfl,l,rs⟩:=Rep.tup.mp r
   exact Rep.tup.mpr ⟨a,xs,rfl,l.elim (fun z=> .inl ⟨fun hb=>hB a hb xs z.2,z.2⟩) .inr,aH.sG hB h rs⟩
theorem aH.sG{K:PySem.W.Frag}{B:List Addr}{H:Hp}(hB:∀b∈B,∀xs,¬Rd H b (.tup xs)):∀{ds:List D} {vs:List V},jj ds=true→aH K [] H ds vs→aH K B H ds vs
 | [],_,_,r=>by unfold aH at r;subst r;exact aH.nil
 | d ::ds,vs,h,r=>by
   unfold jj at h
   obtain⟨h1,h2⟩:=Bool.and_eq_true_iff.mp h
   obtain⟨x,xs,rfl,r1,r2⟩:=r.cu
   exact aH.cons (Rep.sG hB h1 r1) (aH.sG hB h2 r2)
end
theorem SW.nt{K:PySem.W.Frag}{cl:Nat→Addr}{ρ:P3}{H:Hp}{S:aS}(w:SW K cl ρ H S):∀b∈ρ.b,∀xs,¬Rd H b (.tup xs):=fun b hb xs h=>by
 have key:∀o,H b=some o→(∀xs,o≠ .tup xs)→(∀ob xs,o≠ .iA ob (.tup xs))→False:=fun o e h1 h2=>by
  rcases h with z | ⟨ob,z⟩
  ·rw[e] at z;cases z;exact h1 _ rfl
  ·rw[e] at z;cases z;exact h2 _ _ rfl
 rcases P3.cy.mp hb with⟨z,n⟩ | z
 ·obtain⟨k,hk⟩:=List.getElem?_of_mem z
  have hl:=(List.getElem?_eq_some_iff.mp hk).1
  have hS:S[k]? =some (S[k]'(by rw[←w.len];exact hl)):=List.getElem?_eq_getElem (by rw[←w.len];exact hl)
  have r:=w.ob k b _ hk hS
  generalize S[k]'(by rw[←w.len];exact hl)=o at r hS
  cases o with
  | lst ds=>obtain⟨ys,e,_⟩:=r;exact key _ e (fun _ q=>by cases q) (fun _ _ q=>by cases q)
  | dct kvs=>obtain⟨ys,e,_⟩:=r;exact key _ e (fun _ q=>by cases q) (fun _ _ q=>by cases q)
  | ins c fs=>obtain⟨dx,ys,e,_⟩:=r;exact key _ e (fun _ q=>by cases q) (fun _ _ q=>by cases q)
  | iA=>exact n (w.fi k b hk hS)
 ·obtain⟨⟨ys,e⟩,_⟩:=w.zb b z
  exact key _ e (fun _ q=>by cases q) (fun _ _ q=>by cases q)
noncomputable abbrev DE:=List (Option V3)
structure eV (K:PySem.W.Frag) (cl:Nat→Addr) (ρ:P3) (H:Hp) (S:aS) (σ:L2.St) (δ:DE):Prop where
 len:δ.length=σ.length
 sw:SW K cl ρ H S
 val:∀(i:Nat) (d:V3),δ[i]? =some (some d)→∃v,σ[i]? =some (some v)∧bp K ρ H d v
theorem eV.to{K:PySem.W.Frag}{cl:Nat→Addr}{ρ ρ':P3}{H H':Hp}{S S':aS}{σ:L2.St}{δ:DE}(E:eV K cl ρ H S σ δ)(p:Pre ρ H ρ' H')(w:SW K cl ρ' H' S'):eV K cl ρ' H' S' σ δ:=
 ⟨E.len,w,fun i d e=>let⟨v,h1,h2⟩:=E.val i d e;⟨v,h1,h2.pre p⟩⟩
theorem eV.set{K:PySem.W.Frag}{cl:Nat→Addr}{ρ:P3}{H:Hp}{S:aS}{σ:L2.St}{δ:DE}(E:eV K cl ρ H S σ δ){i:Nat}{d:V3}{v:V}(hi:i < σ.length)(r:bp K ρ H d v):eV K cl ρ H S (σ.set i (some v)) (δ.set i (some d)):=
 ⟨by rw[List.length_set,List.length_set];exact E.len,E.sw,fun j d' e=>by
   by_cases h:i=j
   ·subst h
    rw[List.getElem?_set_self (by rw[E.len];exact hi)] at e
    cases e
    exact⟨v,List.getElem?_set_self hi,r⟩
   ·rw[List.getElem?_set_ne h] at e ⊢
    exact E.val j d' e⟩
noncomputable def down(δ:DE):aw:=δ.map fun x=>match x with | some (.d d)=> .val d | _=> .un
theorem eV.down{K:PySem.W.Frag}{cl:Nat→Addr}{ρ:P3}{H:Hp}{S:aS}{σ:L2.St}{δ:DE}(E:eV K cl ρ H S σ δ):dP K [] ρ.b H σ (down δ) where
 len:=by unfold L3.down;rw [List.length_map];exact E.len
 bs:=E.sw.bs
 zb:=fun a ha=>by cases ha
 val:=fun i d e=>by
  unfold L3.down at e
  rw[List.getElem?_map] at e
  cases q:δ[i]? with
  | none=>rw [q] at e;cases e
  | some x=>
    rw[q] at e
    match x,e,q with
    | some (.d y),e,q=>
      cases e
      obtain⟨v,h1,h2⟩:=E.val i _ q
      unfold bp at h2
      exact⟨v,h1,h2⟩
    | some (.loc k),e,q=>cases e
    | some (.lst k),e,q=>cases e
    | some (.tup k),e,q=>cases e
    | none,e,q=>cases e
 bld:=fun i ds e=>by
  unfold L3.down at e
  rw[List.getElem?_map] at e
  cases q:δ[i]? with
  | none=>rw [q] at e;cases e
  | some x=>
    rw[q] at e
    match x,e with
    | some (.d y),e=>cases e
    | some (.loc k),e=>cases e
    | some (.lst k),e=>cases e
    | some (.tup k),e=>cases e
    | none,e=>cases e
 dis:=fun i j a ds es e=>by
  unfold L3.down at e
  rw[List.getElem?_map] at e
  cases q:δ[i]? with
  | none=>rw [q] at e;cases e
  | some x=>
    rw[q] at e
    match x,e with
    | some (.d y),e=>cases e
    | some (.loc k),e=>cases e
    | some (.lst k),e=>cases e
    | some (.tup k),e=>cases e
    | none,e=>cases e
mutual
noncomputable def res(S:aS):V3→Option D
 | .d x=>some x
 | .loc k=>(match S[k]? with | some (.lst ds)=>some (.lst ds) | _=>none)
 | .lst vs=>(gx S vs).map D.lst
 | .tup vs=>(gx S vs).map D.tup
noncomputable def gx(S:aS):List V3→Option (List D)
 | []=>some []
 | v ::vs=>(res S v).bind fun d=>(gx S vs).map (d ::·)
end
noncomputable def bV(S:aS)(δ:DE):aw:=δ.map fun x=>match x with | some v=>(match res S v with | some d=> .val d | none=> .un) | none=> .un
theorem jI{α β:Type}{o:Option α}{f:α→β}{b:β}(h:o.map f=some b):∃a,o=some a∧f a=b:=by
 cases o with
 | none=>cases h
 | some a=>cases h;exact⟨a,rfl,rfl⟩
theorem vZ{α β:Type}{o:Option α}{f:α→Option β}{b:β}(h:o.bind f=some b):∃a,o=some a∧f a=some b:=by
 cases o with
 | none=>cases h
 | some a=>exact⟨a,rfl,h⟩
mutual
noncomputable def fL(n:Nat):V3→Bool
 | .d _=>true
 | .loc k=>decide (n≤k)
 | .lst vs=>jY n vs
 | .tup vs=>jY n vs
noncomputable def jY(n:Nat):List V3→Bool
 | []=>true
 | v ::vs=>fL n v && jY n vs
end
mutual
theorem bp.resB{K:PySem.W.Frag}{cl:Nat→Addr}{ρ:P3}{H:Hp}{S:aS}{B':List Addr}{n:Nat}(w:SW K cl ρ H S)(p:dR ρ.b H B' H)(hn:∀(k:Nat) (a:Addr),n≤k→ρ.r[k]? =some a→a ∉ B'):∀{v:V3} {d:D} {x:V},fL n v=true→res S v=some d→bp K ρ H v x→Rep K B' H d x
 | .d y,d,x,_,h,r=>by unfold L3.res at h;cases h;unfold bp at r;exact r.br p
 | .loc k,d,x,g,h,r=>by
   unfold L3.res at h
   unfold bp at r
   unfold fL at g
   obtain⟨a,h1,rfl⟩:=r
   split at h
   ·rename_i ds e
    cases h
    obtain⟨xs,e2,q⟩:=w.ob k a _ h1 e
    unfold Rep
    exact⟨a,xs,rfl, .inl ⟨hn k a (of_decide_eq_true g) h1, .inl e2⟩,q.br p⟩
   ·cases h
 | .lst vs,d,x,g,h,r=>by
   unfold L3.res at h
   unfold fL at g
   obtain⟨ds,e,rfl⟩:=jI h
   unfold bp at r
   obtain⟨a,xs,rfl,l,r⟩:=r
   unfold Rep
   exact⟨a,xs,rfl,l.br p,aF.resB w p hn g e r⟩
 | .tup vs,d,x,g,h,r=>by
   unfold L3.res at h
   unfold fL at g
   obtain⟨ds,e,rfl⟩:=jI h
   unfold bp at r
   obtain⟨a,xs,rfl,l,r⟩:=r
   unfold Rep
   exact⟨a,xs,rfl,tp.br p l,aF.resB w p hn g e r⟩
theorem aF.resB{K:PySem.W.Frag}{cl:Nat→Addr}{ρ:P3}{H:Hp}{S:aS}{B':List Addr}{n:Nat}(w:SW K cl ρ H S)(p:dR ρ.b H B' H)(hn:∀(k:Nat) (a:Addr),n≤k→ρ.r[k]? =some a→a ∉ B'):∀{vs:List V3} {ds:List D} {xs:List V},jY n vs=true→gx S vs=some ds→aF K ρ H vs xs→aH K B' H ds xs
 | [],ds,xs,_,h,r=>by unfold gx at h;cases h;unfold aF at r;subst r;exact aH.nil
 | v ::vs,ds,xs,g,h,r=>by
   unfold gx at h
   unfold jY at g
   obtain⟨g1,g2⟩:=Bool.and_eq_true_iff.mp g
   obtain⟨d,e1,h2⟩:=vZ h
   obtain⟨es,e2,rfl⟩:=jI h2
   obtain⟨y,ys,rfl,r1,r2⟩:=r.cu
   exact aH.cons (bp.resB w p hn g1 e1 r1) (aF.resB w p hn g2 e2 r2)
end
mutual
theorem rP:∀v:V3,fL 0 v=true
 | .d _=>by unfold fL;rfl
 | .loc k=>by unfold fL;exact decide_eq_true (Nat.zero_le _)
 | .lst vs=>by unfold fL;exact l3 vs
 | .tup vs=>by unfold fL;exact l3 vs
theorem l3:∀vs:List V3,jY 0 vs=true
 | []=>by unfold jY;rfl
 | v ::vs=>by unfold jY;rw [rP v,l3 vs];rfl
end
theorem bp.res{K:PySem.W.Frag}{cl:Nat→Addr}{ρ:P3}{H:Hp}{S:aS}(w:SW K cl ρ H S){v:V3}{d:D}{x:V}(h:res S v=some d)(r:bp K ρ H v x):Rep K [] H d x:=
 r.resB w (fun b o e _=>⟨e,by simp⟩) (n:=0) (fun _ _ _ _=>by simp) (rP v) h
theorem nX{S:aS}{δ:DE}{i:Nat}{y:Sl}(e:(bV S δ)[i]? =some y):(∃v d,δ[i]? =some (some v)∧res S v=some d∧y= .val d)∨y= .un:=by
 unfold bV at e
 rw[List.getElem?_map] at e
 cases q:δ[i]? with
 | none=>rw [q] at e;cases e
 | some x=>
   rw[q] at e
   cases x with
   | none=>cases e;exact .inr rfl
   | some v=>
     cases z:res S v with
     | none=>
       have e:some (match res S v with | some d=>Sl.val d | none=> .un)=some y:=e
       rw[z] at e;cases e;exact .inr rfl
     | some d=>
       have e:some (match res S v with | some d=>Sl.val d | none=> .un)=some y:=e
       rw[z] at e;cases e;exact .inl ⟨v,d,rfl,z,rfl⟩
theorem eV.bV{K:PySem.W.Frag}{cl:Nat→Addr}{ρ:P3}{H:Hp}{S:aS}{σ:L2.St}{δ:DE}(E:eV K cl ρ H S σ δ):dP K [] [] H σ (bV S δ) where
 len:=by unfold L3.bV;rw [List.length_map];exact E.len
 bs:=fun a ha=>by cases ha
 zb:=fun a ha=>by cases ha
 val:=fun i d e=>by
  rcases nX e with⟨v,d',h1,h2,h3⟩ | h
  ·cases h3
   obtain⟨x,q1,q2⟩:=E.val i v h1
   exact⟨x,q1,q2.res E.sw h2⟩
  ·cases h
 bld:=fun i ds e=>by
  rcases nX e with⟨v,d',h1,h2,h3⟩ | h
  ·cases h3
  ·cases h
 dis:=fun i j a ds es e=>by
  rcases nX e with⟨v,d',h1,h2,h3⟩ | h
  ·cases h3
  ·cases h
noncomputable abbrev FX:=DE→aS→R3 V3
noncomputable abbrev FB:=DE→aS→R3 Bool
noncomputable abbrev FA:=DE→aS→R3 (List V3)
noncomputable def tX(K:PySem.W.Frag)(cl:Nat→Addr)(f:FX):TE:=fun σ H Q=>∃ρ S δ v S',eV K cl ρ H S σ δ∧f δ S= .ok v S'∧∀u ρ' H',Pre ρ H ρ' H'→SW K cl ρ' H' S'→bp K ρ' H' v u→Q u H'
noncomputable def CW(K:PySem.W.Frag)(cl:Nat→Addr)(f:FB):TT:=fun σ H Q=>∃ρ S δ b S',eV K cl ρ H S σ δ∧f δ S= .ok b S'∧∀ρ' H',Pre ρ H ρ' H'→SW K cl ρ' H' S'→Q b H'
noncomputable def Kl(K:PySem.W.Frag)(cl:Nat→Addr)(f:FA):TA:=fun σ H Q=>∃ρ S δ vs S',eV K cl ρ H S σ δ∧f δ S= .ok vs S'∧∀us ρ' H',Pre ρ H ρ' H'→SW K cl ρ' H' S'→aF K ρ' H' vs us→Q us H'
structure PX (X:Cx) (cl:Nat→Addr) (e:Expr) (f:FX):Prop where
 go:PE X e (tX X.K cl f)
structure C9 (X:Cx) (cl:Nat→Addr) (e:Expr) (f:FB):Prop where
 go:PT X e (CW X.K cl f)
structure zV (X:Cx) (cl:Nat→Addr) (es:List Expr) (f:FA):Prop where
 go:PA X es (Kl X.K cl f)
section
variable {X:Cx} {cl:Nat→Addr}
noncomputable def xP(f:FD):FX:=fun δ S=>(R3.of (f (down δ)) S).bind fun d S=> .ok (.d d) S
theorem au{e:Expr}{f:FD}(h:QD X e f):PX X cl e (xP f):=⟨h.1.imp fun σ H Q ⟨ρ,S,δ,v,S',E,hf,q⟩=>by
 obtain⟨d,S1,h1,h2⟩:=R3.ak hf
 obtain⟨h3,e3⟩:=R3.of_ok h1
 cases h2
 subst e3
 exact⟨[],ρ.b,down δ,d,E.down,h3,fun v H' s r=>q v ρ H' (Pre.same s) (E.sw.same s) (by unfold bp;exact r)⟩⟩
noncomputable def xT(f:FD):FX:=fun δ S=>(R3.of (f (bV S δ)) S).bind fun d S=>R3.bZ (jF d) (.ok (.d d) S)
theorem cB{e:Expr}{f:FD}(h:QD X e f):PX X cl e (xT f):=⟨h.1.imp fun σ H Q ⟨ρ,S,δ,v,S',E,hf,q⟩=>by
 obtain⟨d,S1,h1,h2⟩:=R3.ak hf
 obtain⟨h4,e3⟩:=R3.of_ok h1
 obtain⟨ha,h3⟩:=R3.bo h2
 cases h3
 subst e3
 exact⟨[],[],bV _ δ,d,E.bV,h4,fun v H' s r=>q v ρ H' (Pre.same s) (E.sw.same s) (by unfold bp;exact Rep.sG (E.sw.same s).nt ha r)⟩⟩
noncomputable def bP(f:aw→R Bool):FB:=fun δ S=>R3.of (f (down δ)) S
theorem mU{e:Expr}{f:aw→R Bool}(h:QB X e f):C9 X cl e (bP f):=⟨h.1.imp fun σ H Q ⟨ρ,S,δ,v,S',E,hf,q⟩=>by
 obtain⟨h1,e3⟩:=R3.of_ok hf
 subst e3
 exact⟨[],ρ.b,down δ,v,E.down,h1,fun H' s=>q ρ H' (Pre.same s) (E.sw.same s)⟩⟩
noncomputable def bT(f:aw→R Bool):FB:=fun δ S=>R3.of (f (bV S δ)) S
theorem iR{e:Expr}{f:aw→R Bool}(h:QB X e f):C9 X cl e (bT f):=⟨h.1.imp fun σ H Q ⟨ρ,S,δ,v,S',E,hf,q⟩=>by
 obtain⟨h1,e3⟩:=R3.of_ok hf
 subst e3
 exact⟨[],[],bV _ δ,v,E.bV,h1,fun H' s=>q ρ H' (Pre.same s) (E.sw.same s)⟩⟩
noncomputable def bL(i:Nat):FX:=fun δ S=>match δ[i]? with | some (some v)=> .ok v S | _=> .no
theorem aR(i:Nat){x:Str}{pos:Pos}(hN:X.N[i]? =some x:=by rfl)(hv:Eg X.env.scope x:=by first | exact Or.inl rfl | exact Or.inr (Or.inl rfl) | exact Or.inr (Or.inr rfl))(hd:(x==("__debug__":Str))=false:=by decide)
 (hcd:(x==("__classdict__":Str))=false:=by decide):PX X cl (.Name x pos) (bL i):=⟨(sY hN hv hd hcd).imp fun σ H Q ⟨ρ,S,δ,v,S',E,hf,q⟩=>by
 unfold bL at hf
 split at hf
 ·rename_i d' e
  cases hf
  obtain⟨u,h1,h2⟩:=E.val i _ e
  exact⟨u,h1,q u ρ H (Pre.refl ρ H) E.sw h2⟩
 ·cases hf⟩
noncomputable def lZ(f:aw→R (List D)):FX:=fun δ S=>(R3.of (f (down δ)) S).bind fun ds S=> .ok (.loc S.length) (S++[.lst ds])
theorem gK{e:Expr}{f:aw→R (List D)}(h:QN X e f):PX X cl e (lZ f):=⟨h.1.imp fun σ H Q ⟨ρ,S,δ,v,S',E,hf,q⟩=>by
 obtain⟨ds,S1,h1,h2⟩:=R3.ak hf
 obtain⟨h3,e3⟩:=R3.of_ok h1
 cases h2
 subst e3
 refine⟨[],ρ.b,down δ,ds,E.down,h3,fun a xs H' s n e r=>?_⟩
 have r':aH X.K (ρ.push a).b H' ds xs:=r.br fun b o e nb=>⟨e,fun hb=>nb (by
  rcases P3.mem_push hb with z | z
  ·exact List.mem_cons_of_mem _ z
  ·subst z;exact List.mem_cons_self)⟩
 obtain⟨w,p⟩:=E.sw.new (o:= .lst ds) s n ⟨xs,e,r'⟩
 exact q _ _ H' p w (by unfold bp;exact⟨a,by show(ρ.r++[a])[_]? =_;rw [←E.sw.len,List.getElem?_append_right (by omega),Nat.sub_self];rfl,rfl⟩)⟩
end
end L3
end
section
set_option maxRecDepth 100000
set_option maxHeartbeats 4000000
namespace L3
open PySem PySem.Spec PyProof.Rows L2
section
variable {X:Cx} {cl:Nat→Addr}
noncomputable def bW:FA:=fun _ S=> .ok [] S
noncomputable def ay(f:FX)(g:FA):FA:=fun δ S=>(f δ S).bind fun v S1=>(g δ S1).bind fun vs S2=> .ok (v ::vs) S2
theorem aO:zV X cl [] bW:=⟨iX.imp fun σ H Q ⟨ρ,S,δ,v,S',E,hf,q⟩=>by
 cases hf
 exact q [] ρ H (Pre.refl ρ H) E.sw aF.nil⟩
theorem ai{e:Expr}{es:List Expr}{f:FX}{g:FA}(h:PX X cl e f)(t:zV X cl es g)(hs:starEach (e ::es) X.env=(false,eval e X.env) ::starEach es X.env:=by rfl):zV X cl (e ::es) (ay f g):=
 ⟨(fJ h.1 t.1 hs).imp fun σ H Q ⟨ρ,S,δ,v,S',E,hf,q⟩=>by
   obtain⟨v1,S1,h1,h2⟩:=R3.ak hf
   obtain⟨vs,S2,h3,h4⟩:=R3.ak h2
   cases h4
   exact⟨ρ,S,δ,v1,S1,E,h1,fun u ρ1 H1 p1 w1 r1=>⟨ρ1,S1,δ,vs,_,E.to p1 w1,h3,fun us ρ2 H2 p2 w2 r2=>q _ ρ2 H2 (p1.trans p2) w2 (aF.cons (r1.pre p2) r2)⟩⟩⟩
noncomputable def jB:List V3→Option (List D)
 | []=>some []
 | .d x ::r=>(jB r).map (x ::·)
 | _ ::_=>none
theorem gA:∀{vs:List V3} {ds:List D},jB vs=some ds→vs=ds.map .d
 | [],ds,h=>by cases h;rfl
 | .d x ::r,ds,h=>by
   cases e:jB r with
   | none=>have h:(jB r).map (x ::·)=some ds:=h;rw [e] at h;cases h
   | some es=>
     have h:(jB r).map (x ::·)=some ds:=h
     rw[e] at h
     cases h
     rw[gA e]
     rfl
 | .loc _ ::_,_,h=>by cases h
 | .lst _ ::_,_,h=>by cases h
 | .tup _ ::_,_,h=>by cases h
theorem mK:∀ds:List D,jB (ds.map .d)=some ds
 | []=>rfl
 | d ::ds=>by show(jB (ds.map .d)).map (d ::·)=_;rw [mK ds];rfl
noncomputable def ku(vs:List V3):V3:=match jB vs with | some ds=> .d (.tup ds) | none=> .tup vs
noncomputable def ig(vs:List V3):V3:=match jB vs with | some ds=> .d (.lst ds) | none=> .lst vs
noncomputable def uq(g:FA):FX:=fun δ S=>(g δ S).bind fun vs S=>R3.bZ (decide (vs.length≤sizeLine)) (.ok (ku vs) S)
theorem pJ{ρ:P3}{H:Hp}{p:Addr}{o:HO}(hp:H p=none):Pre ρ H ρ (upd H p o):=Pre.same (bh hp)
theorem y8{K:PySem.W.Frag}{ρ:P3}{H:Hp}{vs:List V3}{xs:List V}{a:Addr}(l:tp K ρ.b H a xs)(r:aF K ρ H vs xs):bp K ρ H (ku vs) (.ref a):=by
 unfold ku
 split
 ·rename_i ds e
  rw[gA e] at r
  unfold bp Rep
  exact⟨a,xs,rfl,l,r.to⟩
 ·unfold bp
  exact⟨a,xs,rfl,l,r⟩
theorem sE{K:PySem.W.Frag}{ρ:P3}{H:Hp}{vs:List V3}{xs:List V}{a:Addr}(l:qV K ρ.b H a xs)(r:aF K ρ H vs xs):bp K ρ H (ig vs) (.ref a):=by
 unfold ig
 split
 ·rename_i ds e
  rw[gA e] at r
  unfold bp Rep
  exact⟨a,xs,rfl,l,r.to⟩
 ·unfold bp
  exact⟨a,xs,rfl,l,r⟩
theorem nD{es:List Expr}{g:FA}{x1 pos}(h:zV X cl es g):PX X cl (.Tuple es x1 pos) (uq g):=⟨(AF h.1).imp fun σ H Q ⟨ρ,S,δ,v,S',E,hf,q⟩=>by
 obtain⟨vs,S1,h1,h2⟩:=R3.ak hf
 obtain⟨hl,h3⟩:=R3.bo h2
 cases h3
 refine⟨ρ,S,δ,vs,_,E,h1,fun us ρ1 H1 p1 w1 r1=>⟨by rw[←r1.length];exact of_decide_eq_true hl,fun p hp=>q _ ρ1 _ (p1.trans (pJ hp)) (w1.same (bh hp)) ?_⟩⟩
 refine y8 (.inl ⟨fun ha=>?_, .inl a_⟩) (r1.pre (pJ hp))
 obtain⟨o,ho⟩:=w1.bs p ha
 rw[hp] at ho;cases ho⟩
noncomputable def FK(g:FA):FX:=fun δ S=>(g δ S).bind fun vs S=>R3.bZ (decide (vs.length≤sizeLine)) (.ok (ig vs) S)
theorem GI{es:List Expr}{g:FA}{pos}(h:zV X cl es g):PX X cl (.List es pos) (FK g):=⟨(zN h.1).imp fun σ H Q ⟨ρ,S,δ,v,S',E,hf,q⟩=>by
 obtain⟨vs,S1,h1,h2⟩:=R3.ak hf
 obtain⟨hl,h3⟩:=R3.bo h2
 cases h3
 refine⟨ρ,S,δ,vs,_,E,h1,fun us ρ1 H1 p1 w1 r1=>⟨by rw[←r1.length];exact of_decide_eq_true hl,fun p hp=>q _ ρ1 _ (p1.trans (pJ hp)) (w1.same (bh hp)) ?_⟩⟩
 refine sE (.inl ⟨fun ha=>?_, .inl a_⟩) (r1.pre (pJ hp))
 obtain⟨o,ho⟩:=w1.bs p ha
 rw[hp] at ho;cases ho⟩
noncomputable def x2(g:D→D→R D)(fa fb:FX):FX:=fun δ S=>(fa δ S).bind fun a S1=>(fb δ S1).bind fun b S2=>match a,b with
 | .d x, .d y=>(R3.of (g x y) S2).bind fun d S=> .ok (.d d) S
 | _,_=> .no
theorem ET{K:PySem.W.Frag}{g:D→D→R D}{fa fb:FX}{σ:L2.St}{H:Hp}{Q:VK}(h:tX K cl (x2 g fa fb) σ H Q) :
 G3 (fun x y H Q=>∃B da db d,(∀a∈B,∃o,H a=some o)∧Rep K B H da x∧Rep K B H db y∧g da db= .ok d∧∀z H',aY H H'→Rep K B H' d z→Q z H') (tX K cl fa) (tX K cl fb) σ H Q:=by
 obtain⟨ρ,S,δ,v,S',E,hf,q⟩:=h
 obtain⟨a,S1,h1,h2⟩:=R3.ak hf
 obtain⟨b,S2,h3,h4⟩:=R3.ak h2
 match a,b,h1,h3,h4 with
 | .d x, .d y,h1,h3,h4=>
   obtain⟨d,S3,h5,h6⟩:=R3.ak h4
   obtain⟨h7,e⟩:=R3.of_ok h5
   cases h6
   subst e
   refine⟨ρ,S,δ, .d x,S1,E,h1,fun u1 ρ1 H1 p1 w1 r1=>⟨ρ1,S1,δ, .d y,_,E.to p1 w1,h3,fun u2 ρ2 H2 p2 w2 r2=>?_⟩⟩
   have r1':=r1.pre p2
   unfold bp at r1' r2
   exact⟨ρ2.b,x,y,d,w2.bs,r1',r2,h7,fun z H' s r=>q z ρ2 H' (p1.trans (p2.trans (Pre.same s))) (w2.same s) (by unfold bp;exact r)⟩
 | .d x, .loc _,_,_,h4=>cases h4
 | .d x, .lst _,_,_,h4=>cases h4
 | .d x, .tup _,_,_,h4=>cases h4
 | .loc _,_,_,_,h4=>cases h4
 | .lst _,_,_,_,h4=>cases h4
 | .tup _,_,_,_,h4=>cases h4
theorem oC{op:Operator}{g:D→D→R D}{a b:Expr}{fa fb:FX}{pos:Pos}(ho:j0 X (binaryOp op) g)(ha:PX X cl a fa)(hb:PX X cl b fb):PX X cl (.BinOp a op b pos) (x2 g fa fb):=
 ⟨(x3 ho.r ha.1 hb.1).imp fun σ H Q h=>ET h⟩
theorem wV{op:CmpOp}{g:D→D→R D}{a b:Expr}{fa fb:FX}{pos:Pos}(ho:j0 X (compareOp op) g)(ha:PX X cl a fa)(hb:PX X cl b fb)(hm:behindInMarks op b=false):PX X cl (.Compare a [op] [b] pos) (x2 g fa fb):=
 ⟨(x_ ho.r ha.1 hb.1 hm).imp fun σ H Q h=>ET h⟩
noncomputable def HL(g:D→D→R D)(fa fb:FX):FB:=fun δ S=>(x2 g fa fb δ S).bind fun v S=>match v with | .d (.bl b)=> .ok b S | _=> .no
theorem xA{op:CmpOp}{g:D→D→R D}{a b:Expr}{fa fb:FX}{pos:Pos}(ho:j0 X (compareOp op) g)(ha:PX X cl a fa)(hb:PX X cl b fb)(hm:behindInMarks op b=false):C9 X cl (.Compare a [op] [b] pos) (HL g fa fb):=
 ⟨(xZ ho.r ha.1 hb.1 hm).imp fun σ H Q ⟨ρ,S,δ,b,S',E,hf,q⟩=>by
   obtain⟨v,S1,h1,h2⟩:=R3.ak hf
   have hv:v= .d (.bl b)∧S1=S':=by
    match v,h2 with
    | .d (.bl k),h2=>cases h2;exact⟨rfl,rfl⟩
    | .d .cI,h2=>cases h2
    | .d (.int _),h2=>cases h2
    | .d (.str _),h2=>cases h2
    | .d (.lst _),h2=>cases h2
    | .d (.tup _),h2=>cases h2
    | .d (.dct _ _),h2=>cases h2
    | .loc _,h2=>cases h2
    | .lst _,h2=>cases h2
    | .tup _,h2=>cases h2
   obtain⟨rfl,rfl⟩:=hv
   exact ET (g:=g) (Q:=fun x H'=>∃k,x= .bl k∧Q k H') ⟨ρ,S,δ,_,_,E,h1,fun u ρ' H' p w r=>⟨b,by unfold bp Rep at r;exact r,q ρ' H' p w⟩⟩⟩
inductive Ou where
 | nx (δ:DE) | rt (v:V3)
noncomputable abbrev FZ:=DE→aS→R3 Ou
noncomputable def Dv(K:PySem.W.Frag)(cl:Nat→Addr)(ρ:P3)(H:Hp)(D:Ends)(S':aS):Ou→Prop
 | .nx δ'=>∀σ' ρ' H',Pre ρ H ρ' H'→eV K cl ρ' H' S' σ' δ'→D.nx σ' H'
 | .rt v=>∀u ρ' H',Pre ρ H ρ' H'→SW K cl ρ' H' S'→bp K ρ' H' v u→D.rt u H'
theorem Dv.pre{K:PySem.W.Frag}{ρ ρ1:P3}{H H1:Hp}{D:Ends}{S':aS}{o:Ou}(q:Dv K cl ρ H D S' o)(p:Pre ρ H ρ1 H1):Dv K cl ρ1 H1 D S' o:=by
 cases o with
 | nx δ'=>exact fun σ' ρ' H' p' E'=>q σ' ρ' H' (p.trans p') E'
 | rt d=>exact fun v ρ' H' p' w r=>q v ρ' H' (p.trans p') w r
noncomputable def sX(K:PySem.W.Frag)(cl:Nat→Addr)(F:FZ):TS:=fun D σ H=>∃ρ S δ o S',eV K cl ρ H S σ δ∧F δ S= .ok o S'∧Dv K cl ρ H D S' o
structure PZ (X:Cx) (cl:Nat→Addr) (st:Stmt) (F:FZ):Prop where
 go:PS X st (sX X.K cl F)
structure zJ (X:Cx) (cl:Nat→Addr) (st:List Stmt) (F:FZ):Prop where
 go:uc X st (sX X.K cl F)
noncomputable def pj:FZ:=fun δ S=> .ok (.nx δ) S
noncomputable def bz(F G:FZ):FZ:=fun δ S=>(F δ S).bind fun o S1=>match o with | .nx δ'=>G δ' S1 | .rt d=> .ok (.rt d) S1
theorem jo:zJ X cl [] pj:=⟨xW.imp fun D σ H ⟨ρ,S,δ,o,S',E,hf,q⟩=>by
 cases hf
 exact q σ ρ H (Pre.refl ρ H) E⟩
theorem av{st:Stmt}{rest:List Stmt}{F G:FZ}(h1:PZ X cl st F)(h2:zJ X cl rest G):zJ X cl (st ::rest) (bz F G):=⟨(vg h1.1 h2.1).imp fun D σ H ⟨ρ,S,δ,o,S',E,hf,q⟩=>by
 obtain⟨o1,S1,h1,h2⟩:=R3.ak hf
 refine⟨ρ,S,δ,o1,S1,E,h1,?_⟩
 cases o1 with
 | nx δ1=>
   intro σ1 ρ1 H1 p1 E1
   exact⟨ρ1,S1,δ1,o,S',E1,h2,q.pre p1⟩
 | rt d=>
   cases h2
   exact q⟩
theorem aZ{st:Stmt}{F:FZ}(h1:PZ X cl st F):zJ X cl [st] F:=⟨yp h1.1⟩
noncomputable def cA(i:Nat)(f:FX):FZ:=fun δ S=>(f δ S).bind fun v S=>R3.bZ (decide (i < δ.length)) (.ok (.nx (δ.set i (some v))) S)
theorem bf{i:Nat}{x:Str}{e:Expr}{f:FX}{pos pos':Pos}(hN:X.N.Nodup)(hi:X.N[i]? =some x)(hx:Loc X.env.scope x)(he:PX X cl e f)(hs:swapsWith e (some (.Name x pos')) pos.line X.env=pure false:=by rfl)(hf:X.fn x=true∨X.env.scope.names.lookup x=some .local:=by first | exact .inl rfl | exact .inr rfl | assumption) :
 PZ X cl (.Assign [.Name x pos'] e pos) (cA i f):=⟨(wL hN hi hx he.1 hs hf).imp fun D σ H ⟨ρ,S,δ,o,S',E,hf,q⟩=>by
 obtain⟨v,S1,h1,h2⟩:=R3.ak hf
 obtain⟨hi,h3⟩:=R3.bo h2
 cases h3
 refine⟨ρ,S,δ,v,_,E,h1,fun u ρ1 H1 p1 w1 r1=>?_⟩
 exact q _ ρ1 H1 p1 ((E.to p1 w1).set (by rw[←E.len];exact of_decide_eq_true hi) r1)⟩
noncomputable def iz(f:FX):FZ:=fun δ S=>(f δ S).bind fun v S=> .ok (.rt v) S
theorem dm{e:Expr}{f:FX}{pos:Pos}(he:PX X cl e f):PZ X cl (.Return (some e) pos) (iz f):=⟨(Bt he.1).imp fun D σ H ⟨ρ,S,δ,o,S',E,hf,q⟩=>by
 obtain⟨v,S1,h1,h2⟩:=R3.ak hf
 cases h2
 exact⟨ρ,S,δ,v,_,E,h1,fun u ρ1 H1 p1 w1 r1=>q u ρ1 H1 p1 w1 r1⟩⟩
noncomputable def yF(c:FB)(F G:FZ):FZ:=fun δ S=>(c δ S).bind fun b S=>if b then F δ S else G δ S
theorem ng{c:Expr}{a b:List Stmt}{fc:FB}{F G:FZ}{pos:Pos}(hc:C9 X cl c fc)(ha:zJ X cl a F)(hb:zJ X cl b G):PZ X cl (.If c a b pos) (yF fc F G):=⟨(Ez hc.1 ha.1 hb.1).imp fun D σ H ⟨ρ,S,δ,o,S',E,hf,q⟩=>by
 obtain⟨k,S1,h1,h2⟩:=R3.ak hf
 refine⟨ρ,S,δ,k,S1,E,h1,fun ρ1 H1 p1 w1=>?_⟩
 cases k with
 | true=>rw [if_pos rfl] at h2;exact yS ⟨ρ1,S1,δ,o,S',E.to p1 w1,h2,q.pre p1⟩
 | false=>rw [if_neg (by decide)] at h2;exact zw ⟨ρ1,S1,δ,o,S',E.to p1 w1,h2,q.pre p1⟩⟩
noncomputable def J7(f:FX):FZ:=fun δ S=>(f δ S).bind fun _ S=> .ok (.nx δ) S
noncomputable def lr(c:FB)(body:FZ):Nat→FZ
 | 0,_,_=> .no
 | n+1,δ,S=>(c δ S).bind fun b S=>if b then(body δ S).bind fun o S=>match o with | .nx δ2=>lr c body n δ2 S | .rt r=> .ok (.rt r) S else .ok (.nx δ) S
noncomputable def wc(n:Nat)(c:FB)(body:FZ):FZ:=fun δ S=>lr c body n δ S
theorem Bg(n:Nat){c:Expr}{body:List Stmt}{fc:FB}{F:FZ}{pos:Pos}(hp:PassesOwn (model X.prog X.w) X.A X.env X.xe)(hc:C9 X cl c fc)(hb:zJ X cl body F):PZ X cl (.While c body [] pos) (wc n fc F):=
 ⟨(AD hp hc.1 hb.1).imp fun D σ H ⟨ρ,S,δ,o,S',E,hf,q⟩=>by
   refine⟨fun m σ' H'=>∃ρ1 S1 δ1,Pre ρ H ρ1 H'∧eV X.K cl ρ1 H' S1 σ' δ1∧lr fc F m δ1 S1= .ok o S',⟨n,ρ,S,δ,Pre.refl ρ H,E,hf⟩,?_⟩
   rintro m σ' H' ⟨ρ1,S1,δ1,p1,E1,hw⟩
   cases m with
   | zero=>cases hw
   | succ m=>
     obtain⟨b,S2,h1,h2⟩:=R3.ak hw
     refine⟨ρ1,S1,δ1,b,S2,E1,h1,fun ρ2 H2 p2 w2=>?_⟩
     cases b with
     | false=>
       rw[if_neg (by decide)] at h2
       cases h2
       exact zw (q σ' ρ2 H2 (p1.trans p2) (E1.to p2 w2))
     | true=>
       rw[if_pos rfl] at h2
       obtain⟨o1,S3,h3,h4⟩:=R3.ak h2
       refine yS ⟨fun σ4 H4=>∃ρ4 S4 δ4,Pre ρ H ρ4 H4∧eV X.K cl ρ4 H4 S4 σ4 δ4∧lr fc F m δ4 S4= .ok o S',fun σ4 H4 n=>⟨m,Nat.lt_succ_self _,n⟩,ρ2,S2,δ1,o1,S3,E1.to p2 w2,h3,?_⟩
       cases o1 with
       | nx δ2=>exact fun σ3 ρ3 H3 p3 E3=>⟨ρ3,S3,δ2,(p1.trans p2).trans p3,E3,h4⟩
       | rt d=>
         cases h4
         exact fun v ρ3 H3 p3 w r=>q v ρ3 H3 ((p1.trans p2).trans p3) w r⟩
end
end L3
end
section
set_option maxRecDepth 100000
set_option maxHeartbeats 4000000
namespace L3
open PySem PySem.Spec PyProof.Rows L2
theorem aF.get{K:PySem.W.Frag}{ρ:P3}{H:Hp}:∀{ds:List V3} {xs:List V} {i:Nat} {d:V3},aF K ρ H ds xs→ds[i]? =some d→∃x,xs[i]? =some x∧bp K ρ H d x
 | [],_,_,_,_,e=>by simp at e
 | d ::ds,xs,0,d',h,e=>by
   obtain⟨x,r,rfl,h1,h2⟩:=h.cu
   simp at e;subst e
   exact⟨x,rfl,h1⟩
 | d ::ds,xs,i+1,d',h,e=>by
   obtain⟨x,r,rfl,h1,h2⟩:=h.cu
   obtain⟨y,e1,e2⟩:=aF.get (i:=i) h2 (by simpa using e)
   exact⟨y,by simpa using e1,e2⟩
noncomputable def Ho(K:PySem.W.Frag)(ρ:P3)(H:Hp)(J:It)(vs:List V3):Prop:=∀ρ' H',PW ρ H ρ' H'→(∀a∈ρ'.b,∃o,H' a=some o)→(∀(i:Nat) (d:V3),vs[i]? =some d→J.go i H'∧∀x H'',J.yld i H' x H''→aY H' H''∧bp K ρ' H'' d x)∧J.stop vs.length H'
theorem Ho.of{K:PySem.W.Frag}{ρ:P3}{H:Hp}{J:It}{ds:List D}(h:A3 K ρ.b H J ds):Ho K ρ H J (ds.map .d):=fun ρ' H' p bs=>by
 obtain⟨h1,h2⟩:=h ρ'.b H' p.br
 refine⟨fun i v hv=>?_,by rw[List.length_map];exact h2⟩
 rw[List.getElem?_map] at hv
 cases e:ds[i]? with
 | none=>rw [e] at hv;cases hv
 | some d=>
   rw[e] at hv
   cases hv
   obtain⟨g1,g2⟩:=h1 i d e
   exact⟨g1,fun x H'' y=>let⟨s,r⟩:=g2 x H'' y bs;⟨s,by unfold bp;exact r⟩⟩
noncomputable def Ji(K:PySem.W.Frag)(cl:Nat→Addr)(f:FA):TI:=fun σ H R=>∃ρ S δ vs S',eV K cl ρ H S σ δ∧f δ S= .ok vs S'∧∀J ρ1 H1,Pre ρ H ρ1 H1→SW K cl ρ1 H1 S'→Ho K ρ1 H1 J vs→R J H1
structure Fe (X:Cx) (cl:Nat→Addr) (tg e:Expr) (f:FA):Prop where
 go:PI X tg e (Ji X.K cl f)
section
variable {X:Cx} {cl:Nat→Addr}
noncomputable def iP(f:aw→R (List D)):FA:=fun δ S=>(R3.of (f (down δ)) S).bind fun ds S=> .ok (ds.map .d) S
theorem dg{tg e:Expr}{f:aw→R (List D)}(h:yd X tg e f):Fe X cl tg e (iP f):=⟨h.1.imp fun σ H Q ⟨ρ,S,δ,vs,S',E,hf,q⟩=>by
 obtain⟨ds,S1,h1,h2⟩:=R3.ak hf
 obtain⟨h3,e3⟩:=R3.of_ok h1
 cases h2
 subst e3
 exact⟨[],ρ.b,down δ,ds,E.down,h3,fun J H1 s r=>q J ρ H1 (Pre.same s) (E.sw.same s) (Ho.of r)⟩⟩
noncomputable def lS(f:FX):FA:=fun δ S=>(f δ S).bind fun v S=>match v with | .d (.int j)=>R3.bZ (decide (-(2 ^ 62)≤j∧j < 2 ^ 62)) (.ok ((b_ 0 j.toNat).map .d) S) | _=> .no
theorem gE{tg a:Expr}{f:FX}{p pos:Pos}(h:PX X cl a f)(hg:Gl X "range")(hm:X.mg "range"=none)(hs:starEach [a] X.env=[(false,eval a X.env)]:=by rfl):Fe X cl tg (.Call (.Name "range" p) [a] [] pos) (lS f):=
 ⟨(sx hg hm (fJ h.1 iX hs) hs).imp fun σ H RR ⟨ρ,S,δ,vs,S',E,hf,q⟩=>by
   obtain⟨v,S1,h1,h2⟩:=R3.ak hf
   match v,h1,h2 with
   | .d (.int j),h1,h2=>
     obtain⟨hb,h3⟩:=R3.bo h2
     cases h3
     have hb:=of_decide_eq_true hb
     refine⟨ρ,S,δ, .d (.int j),_,E,h1,fun u ρ1 H1 p1 w1 r1=>⟨j,?_,hb.1,hb.2,q _ ρ1 H1 p1 w1 (Ho.of (AG 0 _))⟩⟩
     unfold bp Rep at r1
     rw[r1]
   | .d .cI,_,h2=>cases h2
   | .d (.bl _),_,h2=>cases h2
   | .d (.str _),_,h2=>cases h2
   | .d (.lst _),_,h2=>cases h2
   | .d (.tup _),_,h2=>cases h2
   | .d (.dct _ _),_,h2=>cases h2
   | .loc _,_,h2=>cases h2
   | .lst _,_,h2=>cases h2
   | .tup _,_,h2=>cases h2⟩
noncomputable def Au(f:FX):FA:=fun δ S=>(f δ S).bind fun v S=>match v with | .d (.lst ds)=> .ok (ds.map .d) S | .lst vs=> .ok vs S | _=> .no
theorem s_{tg e:Expr}{f:FX}(h:PX X cl e f):Fe X cl tg e (Au f):=⟨by
 intro pins s σ H RR I ⟨ρ,S,δ,vs,S',E,hf,q⟩
 obtain⟨v,S1,h1,h2⟩:=R3.ak hf
 refine dQ (h.1 pins s σ H (fun u H1=>∃ρ1,Pre ρ H ρ1 H1∧SW X.K cl ρ1 H1 S1∧bp X.K ρ1 H1 v u) I ⟨ρ,S,δ,v,S1,E,h1,fun u ρ1 H1 p1 w1 r1=>⟨ρ1,p1,w1,r1⟩⟩) fun u s1 ⟨x,H1,I1,r1,ρ1,p1,w1,rr⟩=>?_
 have key:S1=S'∧∃a xs,x= .ref a∧qV X.K ρ1.b H1 a xs∧aF X.K ρ1 H1 vs xs:=by
  match v,h2,rr with
  | .d (.lst ds),h2,rr=>
    cases h2
    unfold bp Rep at rr
    obtain⟨a,xs,e,l,r⟩:=rr
    exact⟨rfl,a,xs,e,l,aF.of r⟩
  | .lst ws,h2,rr=>
    cases h2
    unfold bp at rr
    exact⟨rfl,rr⟩
  | .d .cI,h2,_=>cases h2
  | .d (.bl _),h2,_=>cases h2
  | .d (.int _),h2,_=>cases h2
  | .d (.str _),h2,_=>cases h2
  | .d (.tup _),h2,_=>cases h2
  | .d (.dct _ _),h2,_=>cases h2
  | .loc _,h2,_=>cases h2
  | .tup _,h2,_=>cases h2
 obtain⟨rfl,a,xs,rfl,l,rr⟩:=key
 cases r1
 obtain⟨its,rv,p,hz⟩:=I1.list l.sq
 refine wpAny_pyIter_list p.isList ?_
 refine⟨s1.heap.objs.size,[s1.heap.objs.size],_,_,H1,rfl,I1.kept (t':=s1.toks) fun b o e=>Heap.get?_push_of_some _ e,r_ a _,⟨_,Heap.get?_push_size _ rfl,rfl,rfl⟩,fun b hb=>?_,q _ ρ1 H1 p1 w1 fun ρ' H' pr bs=>?_⟩
 ·have e:b=s1.heap.objs.size:=by simpa using hb
  subst e
  exact I1.tW (Nat.le_refl _) (I1.hok.fresh (Nat.le_refl _))
 ·have l':qV X.K ρ'.b H' a xs:=l.br pr.br
  have rr':=rr.pw pr
  refine⟨fun i d hd=>?_,⟨xs,l'.sq,by rw[rr.length];exact Nat.le_refl _⟩⟩
  obtain⟨x,hx,rx⟩:=rr'.get hd
  exact⟨⟨xs,x,l'.sq,hx⟩,fun y H'' ⟨e1,e2⟩=>by
   subst e1
   have:=e2 xs l'.sq
   rw[hx] at this
   cases this
   exact⟨aY.refl _,rx⟩⟩⟩
noncomputable abbrev FG:=V3→DE→Option DE
noncomputable abbrev Dg:=List V3→DE→Option DE
noncomputable def gX(K:PySem.W.Frag)(cl:Nat→Addr)(t:FG):TG:=fun v σ H Q=>∃ρ S δ x δ',eV K cl ρ H S σ δ∧bp K ρ H x v∧t x δ=some δ'∧∀σ' H',aY H H'→eV K cl ρ H' S σ' δ'→Q σ' H'
noncomputable def K2(K:PySem.W.Frag)(cl:Nat→Addr)(t:Dg):A8:=fun v σ H Q=>∃ρ S δ x δ',eV K cl ρ H S σ δ∧aF K ρ H x v∧t x δ=some δ'∧∀σ' H',aY H H'→eV K cl ρ H' S σ' δ'→Q σ' H'
structure E_ (X:Cx) (cl:Nat→Addr) (tg:Expr) (t:FG):Prop where
 go:PG X tg (gX X.K cl t)
structure DH (X:Cx) (cl:Nat→Addr) (tg:List Expr) (t:Dg):Prop where
 go:C7 X tg (K2 X.K cl t)
theorem eV.same{K:PySem.W.Frag}{ρ:P3}{H H':Hp}{S:aS}{σ:L2.St}{δ:DE}(E:eV K cl ρ H S σ δ)(s:aY H H'):eV K cl ρ H' S σ δ:=E.to (Pre.same s) (E.sw.same s)
noncomputable def ky(i:Nat):FG:=fun d δ=>if i < δ.length then some (δ.set i (some d)) else none
theorem bG{i:Nat}{x:Str}{pos:Pos}(hN:X.N.Nodup)(hi:X.N[i]? =some x)(hx:Loc X.env.scope x)(hf:X.fn x=true∨X.env.scope.names.lookup x=some .local:=by first | exact .inl rfl | exact .inr rfl | assumption):E_ X cl (.Name x pos) (ky i):=
 ⟨(x5 hN hi hx hf).imp fun v σ H Q ⟨ρ,S,δ,d,δ',E,r,ht,q⟩=>by
   unfold ky at ht
   split at ht
   ·rename_i hi
    cases ht
    exact q _ H (aY.refl H) (E.set (by rw[←E.len];exact hi) r)
   ·cases ht⟩
noncomputable def zK:Dg:=fun ds δ=>match ds with | []=>some δ | _=>none
noncomputable def wI(t:FG)(u:Dg):Dg:=fun ds δ=>match ds with | d ::r=>(t d δ).bind fun δ'=>u r δ' | []=>none
theorem pU:DH X cl [] zK:=⟨yb.imp fun vs σ H Q ⟨ρ,S,δ,ds,δ',E,r,ht,q⟩=>by
 cases ds with
 | nil=>unfold aF at r;cases ht;exact⟨r,q σ H (aY.refl H) E⟩
 | cons=>cases ht⟩
theorem iF{e:Expr}{es:List Expr}{t:FG}{u:Dg}(h1:E_ X cl e t)(h2:DH X cl es u)(hs:(assignEach (e ::es) X.env).map (·.2)=assign e X.env ::(assignEach es X.env).map (·.2):=by rfl):DH X cl (e ::es) (wI t u):=
 ⟨(ux h1.1 h2.1 hs).imp fun vs σ H Q ⟨ρ,S,δ,ds,δ',E,r,ht,q⟩=>by
   cases ds with
   | nil=>cases ht
   | cons d ds=>
     obtain⟨x,xs,rfl,r1,r2⟩:=r.cu
     have ht:(t d δ).bind (fun δ'=>u ds δ')=some δ':=ht
     cases e1:t d δ with
     | none=>rw [e1] at ht;cases ht
     | some δ1=>
       rw[e1] at ht
       exact⟨x,xs,rfl,ρ,S,δ,d,δ1,E,r1,e1,fun σ1 H1 s1 E1=>⟨ρ,S,δ1,ds,δ',E1,r2.pre (Pre.same s1),ht,fun σ2 H2 s2 E2=>q σ2 H2 (s1.trans s2) E2⟩⟩⟩
noncomputable def y1(n:Nat)(t:Dg):FG:=fun d δ=>match d with
 | .d (.tup ds)=>if ds.length=n then t (ds.map .d) δ else none
 | .tup vs=>if vs.length=n then t vs δ else none
 | _=>none
theorem sO{es:List Expr}{k:Nat}{t:Dg}{n:Nat}{pos:Pos}(hc:X.calm=true)(h:DH X cl es t)(hn:(assignEach es X.env).length=n:=by rfl)(hst:(assignEach es X.env).findIdx? (·.1)=none:=by rfl):E_ X cl (.Tuple es k pos) (y1 n t):=
 ⟨(Bi hc h.1 hn hst).imp fun v σ H Q ⟨ρ,S,δ,d,δ',E,r,ht,q⟩=>by
   have key:∃vs a xs,v= .ref a∧tp X.K ρ.b H a xs∧aF X.K ρ H vs xs∧vs.length=n∧t vs δ=some δ':=by
    unfold y1 at ht
    split at ht
    ·rename_i ds
     split at ht
     ·rename_i hl
      unfold bp Rep at r
      obtain⟨a,xs,e,l,r⟩:=r
      exact⟨ds.map .d,a,xs,e,l,aF.of r,by rw[List.length_map];exact hl,ht⟩
     ·cases ht
    ·rename_i vs
     split at ht
     ·rename_i hl
      unfold bp at r
      obtain⟨a,xs,e,l,r⟩:=r
      exact⟨vs,a,xs,e,l,r,hl,ht⟩
     ·cases ht
    ·cases ht
   obtain⟨vs,a,xs,rfl,l,r,hl,ht⟩:=key
   exact⟨a,xs,rfl,l.sq,by rw[←r.length];exact hl,ρ,S,δ,vs,δ',E,r,ht,q⟩⟩
noncomputable def Lz(f:FX)(t:FG):FZ:=fun δ S=>(f δ S).bind fun d S=>match t d δ with | some δ'=> .ok (.nx δ') S | none=> .no
noncomputable def nc(t:FG)(body:FZ):List V3→FZ
 | [],δ,S=> .ok (.nx δ) S
 | d ::ds,δ,S=>match t d δ with
   | none=> .no
   | some δ1=>(body δ1 S).bind fun o S=>match o with | .nx δ2=>nc t body ds δ2 S | .rt r=> .ok (.rt r) S
noncomputable def kD(it:FA)(t:FG)(body:FZ):FZ:=fun δ S=>(it δ S).bind fun vs S=>nc t body vs δ S
theorem fB{tg iter:Expr}{body:List Stmt}{it:FA}{t:FG}{F:FZ}{pos:Pos}(hp:PassesOwn (model X.prog X.w) X.A X.env X.xe)(hc:X.calm=true)(hi:Fe X cl tg iter it)(hg:E_ X cl tg t)(hb:zJ X cl body F)
 (hs:∀x,foldedSetIterable iter X.env x=pure x:=by intro _;rfl):PZ X cl (.For tg iter body [] pos) (kD it t F):=⟨(z9 hp hc hi.1 hg.1 hb.1 hs).imp fun D σ H ⟨ρ,S,δ,o,S',E,hf,q⟩=>by
 obtain⟨ds,S0,h1,h2⟩:=R3.ak hf
 refine⟨ρ,S,δ,ds,S0,E,h1,fun J ρ1 H1 p1 w1 ir=>?_⟩
 refine⟨fun i m σ' H'=>m=ds.length - i∧i≤ds.length∧∃ρ' S1 δ',Pre ρ1 H1 ρ' H'∧eV X.K cl ρ' H' S1 σ' δ'∧nc t F (ds.drop i) δ' S1= .ok o S',⟨ds.length,rfl,Nat.zero_le _,ρ1,S0,δ,Pre.refl ρ1 H1,E.to p1 w1,by simpa using h2⟩,?_⟩
 rintro i m σ' H' ⟨rfl,hi,ρ',S1,δ',pv,E',hl⟩
 obtain⟨go,stop⟩:=ir ρ' H' pv.pw E'.sw.bs
 by_cases hlt:i < ds.length
 ·have hd:ds[i]? =some ds[i]:=List.getElem?_eq_getElem hlt
  have hdrop:ds.drop i=ds[i] ::ds.drop (i+1):=List.drop_eq_getElem_cons hlt
  rw[hdrop] at hl
  unfold nc at hl
  split at hl
  ·cases hl
  ·rename_i δ1 h3
   obtain⟨o1,S2,h5,h6⟩:=R3.ak hl
   obtain⟨g1,g2⟩:=go i _ hd
   refine .inr ⟨g1,fun σ2 H2=>∃ρ2 S2 δ2,Pre ρ1 H1 ρ2 H2∧eV X.K cl ρ2 H2 S2 σ2 δ2∧nc t F (ds.drop (i+1)) δ2 S2= .ok o S',fun σ2 H2 n=>⟨ds.length - (i+1),by omega,rfl,hlt,n⟩,fun x H'' y=>?_⟩
   obtain⟨ss,rr⟩:=g2 x H'' y
   refine⟨ρ',S1,δ',ds[i],δ1,E'.same ss,rr,h3,fun σ2 H2 s2 E2=>⟨ρ',S1,δ1,o1,S2,E2,h5,?_⟩⟩
   have pv2:Pre ρ1 H1 ρ' H2:=pv.trans (Pre.same (ss.trans s2))
   cases o1 with
   | nx δ2=>exact fun σ3 ρ3 H3 p3 E3=>⟨ρ3,S2,δ2,pv2.trans p3,E3,h6⟩
   | rt d=>
     cases h6
     exact fun v ρ3 H3 p3 w r=>q v ρ3 H3 (p1.trans (pv2.trans p3)) w r
 ·have e:i=ds.length:=by omega
  subst e
  rw[List.drop_length] at hl
  cases hl
  exact .inl ⟨stop,q σ' ρ' H' (p1.trans pv) E'⟩⟩
end
end L3
end
section
set_option maxRecDepth 100000
set_option maxHeartbeats 4000000
namespace L3
open PySem PySem.Spec PyProof.Rows L2
mutual
noncomputable def kP(n:Nat):V3→Bool
 | .d _=>true
 | .loc k=>decide (k < n)
 | .lst vs=>hW n vs
 | .tup vs=>hW n vs
noncomputable def hW(n:Nat):List V3→Bool
 | []=>true
 | v ::vs=>kP n v && hW n vs
end
noncomputable def o5(n:Nat):SO→Bool
 | .ins _ fs=>hW n (fs.map (·.2))
 | _=>true
theorem CJ{ρ:P3}{n:Nat}{b:Addr}(h:b∈(ρ.cut n).b):b∈ρ.b:=by
 rcases P3.cy.mp h with z | z
 ·exact P3.cy.mpr (.inl ⟨List.mem_of_mem_take z.1,z.2⟩)
 ·exact P3.cy.mpr (.inr z)
theorem iU{ρ:P3}{H:Hp}(n:Nat):dR ρ.b H (ρ.cut n).b H:=fun b o e nb=>⟨e,fun hb=>nb (CJ hb)⟩
mutual
theorem bp.cut{K:PySem.W.Frag}{ρ:P3}{H:Hp}{n:Nat}:∀{v:V3} {x:V},kP n v=true→bp K ρ H v x→bp K (ρ.cut n) H v x
 | .d y,x,_,h=>by unfold bp at h ⊢;exact h.br (iU n)
 | .loc k,x,o,h=>by
   unfold bp at h ⊢
   unfold kP at o
   obtain⟨a,h1,h2⟩:=h
   exact⟨a,by show(ρ.r.take n)[k]? =_;rw [List.getElem?_take_of_lt (of_decide_eq_true o)];exact h1,h2⟩
 | .lst vs,x,o,h=>by
   unfold bp at h ⊢
   unfold kP at o
   obtain⟨a,xs,e,l,r⟩:=h
   exact⟨a,xs,e,l.br (iU n),aF.cut o r⟩
 | .tup vs,x,o,h=>by
   unfold bp at h ⊢
   unfold kP at o
   obtain⟨a,xs,e,l,r⟩:=h
   exact⟨a,xs,e,tp.br (iU n) l,aF.cut o r⟩
theorem aF.cut{K:PySem.W.Frag}{ρ:P3}{H:Hp}{n:Nat}:∀{vs:List V3} {xs:List V},hW n vs=true→aF K ρ H vs xs→aF K (ρ.cut n) H vs xs
 | [],_,_,h=>by unfold aF at h ⊢;exact h
 | v ::vs,xs,o,h=>by
   unfold hW at o
   obtain⟨o1,o2⟩:=Bool.and_eq_true_iff.mp o
   obtain⟨x,r,rfl,h1,h2⟩:=h.cu
   exact aF.cons (bp.cut o1 h1) (aF.cut o2 h2)
end
theorem SW.cut{K:PySem.W.Frag}{cl:Nat→Addr}{ρ:P3}{H:Hp}{S:aS}(w:SW K cl ρ H S){n:Nat}(ok:(S.take n).all (o5 n)=true):SW K cl (ρ.cut n) H (S.take n):=
 ⟨by show(ρ.r.take n).length=_;rw [List.length_take,List.length_take,w.len],fun i j a hi hj=>by
   have hi:(ρ.r.take n)[i]? =some a:=hi
   have hj:(ρ.r.take n)[j]? =some a:=hj
   have gi:ρ.r[i]? =some a:=by
    rw[List.getElem?_take] at hi;split at hi
    ·exact hi
    ·cases hi
   have gj:ρ.r[j]? =some a:=by
    rw[List.getElem?_take] at hj;split at hj
    ·exact hj
    ·cases hj
   exact w.nd i j a gi gj,fun k a o hk ho=>by
   have hk:(ρ.r.take n)[k]? =some a:=hk
   have gk:ρ.r[k]? =some a:=by
    rw[List.getElem?_take] at hk;split at hk
    ·exact hk
    ·cases hk
   have go:S[k]? =some o:=by
    rw[List.getElem?_take] at ho;split at ho
    ·exact ho
    ·cases ho
   have r:=w.ob k a o gk go
   have oo:o5 n o=true:=List.all_eq_true.mp ok o (List.mem_of_getElem? ho)
   cases o with
   | lst ds=>obtain⟨xs,e,q⟩:=r;exact⟨xs,e,q.br (iU n)⟩
   | dct kvs=>obtain⟨ys,e,e2,q⟩:=r;exact⟨ys,e,e2,q.br (iU n)⟩
   | ins c fs=>obtain⟨dx,ys,e,e2,q⟩:=r;exact⟨dx,ys,e,e2,q.cut oo⟩
   | iA=>exact r,fun b hb=>let⟨h1,h2⟩:=w.zb b hb;⟨h1,fun h=>h2 (List.mem_of_mem_take h)⟩,(fun k a hk ho=>by
   have hk:(ρ.r.take n)[k]? =some a:=hk
   rw[List.getElem?_take] at hk
   split at hk
   ·rename_i hlt
    rw[List.getElem?_take_of_lt hlt] at ho
    exact w.fz k a hk ho
   ·cases hk),w.ff,(fun k a hk ho=>by
   have hk:(ρ.r.take n)[k]? =some a:=hk
   rw[List.getElem?_take] at hk
   split at hk
   ·rename_i hlt
    rw[List.getElem?_take_of_lt hlt] at ho
    exact w.fi k a hk ho
   ·cases hk)⟩
theorem SW.Fg{K:PySem.W.Frag}{cl:Nat→Addr}{ρ ρ':P3}{H H':Hp}{n:Nat}(hn:ρ.r.length≤n)(p:Pre ρ H ρ' H'):Pre ρ H (ρ'.cut n) H':=
 ⟨p.br.trans (iU n),p.zz,p.zs,fun k a h=>by show(ρ'.r.take n)[k]? =_;rw [List.getElem?_take_of_lt (Nat.lt_of_lt_of_le (List.getElem?_eq_some_iff.mp h).1 hn)];exact p.ext k a h⟩
section
variable {X:Cx} {cl:Nat→Addr}
noncomputable def cK(S:aS)(k:Nat):Option (List D):=match S[k]? with | some (.lst ds)=>some ds | _=>none
theorem dI{S:aS}{k:Nat}{ds:List D}(h:cK S k=some ds):S[k]? =some (.lst ds):=by
 unfold cK at h
 split at h
 ·rename_i e;cases h;exact e
 ·cases h
noncomputable def gy(δ:DE)(i:Nat):Option Nat:=match δ[i]? with | some (some (.loc k))=>some k | _=>none
theorem md{δ:DE}{i k:Nat}(h:gy δ i=some k):δ[i]? =some (some (.loc k)):=by
 unfold gy at h
 split at h
 ·rename_i e;cases h;exact e
 ·cases h
noncomputable def jJ(i:Nat)(f:FX):FZ:=fun δ S=>match gy δ i with
 | none=> .no
 | some k=>match cK S k with
   | none=> .no
   | some _=>(f δ S).bind fun v S1=>match v with
     | .d d=>(match cK S1 k with | some ds=>R3.bZ (decide (ds.length < sizeLine)) (.ok (.nx δ) (S1.set k (.lst (ds++[d])))) | none=> .no)
     | _=> .no
theorem gI{i:Nat}{x:Str}{e:Expr}{f:FX}{npos apos cpos pos:Pos}(hN:X.N[i]? =some x)(hv:Eg X.env.scope x)(he:PX X cl e f)
 (hd:(x==("__debug__":Str))=false:=by decide) (hcd:(x==("__classdict__":Str))=false:=by decide)
 (hs:starEach [e] X.env=(false,eval e X.env) ::starEach [] X.env:=by rfl) (hline:(apos.endLine==cpos.line)=true:=by rfl)
 (hfew:((backTo cpos (starEach [e] X.env)).all (fun x=>!x.1) && (backToKw cpos (keywordEach [] X.env)).all (fun x=>x.1.isSome)
   && decide (([e]:List Expr).length+([]:List Keyword).length+(if([]:List Keyword).isEmpty then 0 else 1) < 30))=true:=by rfl)
 (hsw:swapsWith (.Call (.Attribute (.Name x npos) "append" apos) [e] [] cpos) none pos.line X.env=pure false:=by rfl)
 (hbase:attributeBase (.Name x npos) "append" X.env (eval (.Name x npos) X.env)=eval (.Name x npos) X.env:=by rfl) :
 PZ X cl (.Expr (.Call (.Attribute (.Name x npos) "append" apos) [e] [] cpos) pos) (jJ i f):=by
 refine⟨(sZ (yz (X:=X) PySem.F.plainAttrs_list PySem.F.slot_list_append PySem.F.type_list_append lz (sY hN hv hd hcd) (fJ he.1 iX hs) hbase hfew hline hs) hsw).imp fun D σ H ⟨ρ,S,δ,o,S',E,hf,q⟩=>?_⟩
 unfold jJ at hf
 split at hf
 ·cases hf
 ·rename_i k hk
  split at hf
  ·cases hf
  ·rename_i ds0 h0
   obtain⟨v,S1,h1,h2⟩:=R3.ak hf
   split at h2
   ·rename_i d
    split at h2
    ·rename_i ds h3
     obtain⟨hl,h4⟩:=R3.bo h2
     cases h4
     obtain⟨u,u1,u2⟩:=E.val i _ (md hk)
     unfold bp at u2
     obtain⟨a,a1,rfl⟩:=u2
     obtain⟨xs0,x0,_⟩:=E.sw.ob k a _ a1 (dI h0)
     refine⟨.ref a,u1, .inl ⟨rfl,xs0,mw.of x0⟩,⟨ρ,S,δ, .d d,S1,E,h1,fun y ρ1 H1 p1 w1 r1=>?_⟩⟩
     have b1:=p1.ext k a a1
     obtain⟨xs,x1,x2⟩:=w1.ob k a _ b1 (dI h3)
     refine⟨a,xs,y,rfl,rfl,x1,by rw[←x2.length];exact of_decide_eq_true hl,?_⟩
     unfold bp at r1
     obtain⟨w2,p2⟩:=w1.put (o:= .lst (ds++[d])) (u:= .lst (xs++[y])) b1 (w1.fz k a b1 (by rw[dI h3];intro h;cases h)) ⟨xs++[y],rfl,x2.append (aH.cons r1 aH.nil)⟩
     exact q σ ρ1 _ (p1.trans p2) (E.to (p1.trans p2) w2)
    ·cases h2
   ·cases h2
noncomputable def we(fo fi fe:FX):FZ:=fun δ S=>(fe δ S).bind fun v S1=>(fo δ S1).bind fun o S2=>(fi δ S2).bind fun j S3=>match v,o,j with
 | .d d, .loc k, .d (.int n)=>(match cK S3 k with
   | some ds=>(match qp ds.length n with | some m=> .ok (.nx δ) (S3.set k (.lst (ds.set m d))) | none=> .no)
   | none=> .no)
 | _,_,_=> .no
noncomputable def Bp(K:PySem.W.Frag)(cl:Nat→Addr)(n:Nat)(g:List V3→aS→R3 V3):Sp:=fun vs H Q _=>vs.length=n∧∃ρ S xs v S',SW K cl ρ H S∧aF K ρ H xs vs∧g xs S= .ok v S'∧∀u ρ' H',Pre ρ H ρ' H'→SW K cl ρ' H' S'→bp K ρ' H' v u→Q u H'
noncomputable def bU(g:List V3→aS→R3 V3)(fs:FA):FX:=fun δ S=>(fs δ S).bind g
noncomputable def aI(P:Program)(w:World)(K:PySem.W.Frag)(mg:Str→Option Value)(base:Heap)(cl:Nat→Addr)(k:Nat)(x:Str)(n:Nat)(g:List V3→aS→R3 V3):Prop:=
 ∃(f:Addr) (fd:FuncData) (ps:List Str),hJ P w K mg base rh k f fd ps (Bp K cl n g)∧mg x=some (.ref f)∧PySem.W.keepIn K (.ref f)=true∧Binds K fd ps []
theorem bj{g:List V3→aS→R3 V3}{k j n:Nat}{x:Str}{p pos:Pos}{e:Expr}{es:List Expr}{fs:FA}(C:aI X.prog X.w X.K X.mg X.base cl k x n g)(hr:d8 j X.A)(hkj:k≤j)(hg:Gl X x)(ha:zV X cl (e ::es) fs)
 (hn:∀δ S ds S',fs δ S= .ok ds S'→ds.length=n) (hdb:(x==("__debug__":Str))=false:=by decide) (he:starEach (e ::es) X.env=(false,eval e X.env) ::starEach es X.env:=by rfl) (hpl:(backTo pos (starEach es X.env)).any (·.1)=false:=by rfl) :
 PX X cl (.Call (.Name x p) (e ::es) [] pos) (bU g fs):=by
 obtain⟨f,fd,ps,F,hm,hk,hb⟩:=C
 refine⟨(pA F (hr.mono hkj) hg hm hk hb .nil pV ha.1 hdb he hpl).imp fun σ H Q ⟨ρ,S,δ,v,S',E,hf,q⟩=>?_⟩
 obtain⟨vs,S1,h1,h2⟩:=R3.ak hf
 refine⟨ρ,S,δ,vs,S1,E,h1,fun us ρ1 H1 p1 w1 r1=>?_⟩
 show Bp X.K cl n g (us++[]) H1 Q E0
 rw[List.append_nil]
 exact⟨by rw[←r1.length];exact hn δ S vs S1 h1,ρ1,S1,vs,v,S',w1,r1,h2,fun z ρ2 H2 p2 w2 r2=>q z ρ2 H2 (p1.trans p2) w2 r2⟩
end
noncomputable def bX(N:List Str)(vs:List V3):DE:=vs.map some++List.replicate (N.length - vs.length) none
theorem An{K:PySem.W.Frag}{cl:Nat→Addr}{ρ:P3}{H:Hp}{S:aS}{N:List Str}{ds:List V3}{vs:List V}(w:SW K cl ρ H S)(r:aF K ρ H ds vs):eV K cl ρ H S (L2.start N vs) (bX N ds) where
 len:=by unfold L2.start bX;simp [r.length]
 sw:=w
 val:=fun i d e=>by
  unfold bX at e
  unfold L2.start
  by_cases hi:i < ds.length
  ·rw[List.getElem?_append_left (by simpa using hi),List.getElem?_map] at e
   cases q:ds[i]? with
   | none=>rw [q] at e;cases e
   | some d'=>
     rw[q] at e
     cases e
     obtain⟨x,h1,h2⟩:=r.get q
     exact⟨x,by rw[List.getElem?_append_left (by rw[List.length_map,←r.length];exact hi),List.getElem?_map,h1];rfl,h2⟩
  ·rw[List.getElem?_append_right (by simpa using hi),List.getElem?_replicate] at e
   split at e <;> cases e
noncomputable def mz(N:List Str)(F:FZ):List V3→aS→R3 V3:=fun vs S=>(F (bX N vs) S).bind fun o S'=>match o with | .rt v=> .ok v S' | .nx _=> .ok (.d .cI) S'
noncomputable def nA(N:List Str)(F:FZ):List V3→aS→R3 V3:=fun vs S=>(mz N F vs S).bind fun v S'=>match res S' v with
 | some d=>R3.bZ ((S'.take S.length).all (o5 S.length) && fL S.length v) (.ok (.d d) (S'.take S.length))
 | none=> .no
theorem De{P:Program}{w:World}{K:PySem.W.Frag}{mg:Str→Option Value}{base:Heap}{cl:Nat→Addr}{x qual:Str}{st:Stmt}{f:Addr}{fd:FuncData}{N ps:List Str}{k:Nat}{F:FZ}(Fn:xU K x qual st f fd)(S:ba N ps (ah st))
 (hbody:∀(cdv:Value) (A:Around) (outer:List Env) (s:Shared) (H:Hp) (E:XK),d8 k (A.deeper (envOfC qual (ah st) s.heap.objs.size f cdv))→
   zJ (qi rh P w K mg base N qual (ah st) f cdv A outer s H E).Ct cl (aq st) F):hJ P w K mg base rh (k+1) f fd ps (Bp K cl ps.length (mz N F)):=by
 refine Fn.ok S (fun vs H Q E h=>h.1) (fun cdv A outer s H vs Q E hr h=>⟨_,(hbody cdv A outer s H E hr).1,?_⟩)
 obtain⟨_,ρ,S,ds,v,S',w,r,hg,q⟩:=h
 obtain⟨o,S1,h1,h2⟩:=R3.ak hg
 refine⟨ρ,S,bX N ds,o,S1,An w r,h1,?_⟩
 cases o with
 | nx δ'=>
   cases h2
   exact fun σ' ρ' H' p' E'=>q _ ρ' H' p' E'.sw (by unfold bp Rep;rfl)
 | rt d'=>
   cases h2
   exact fun u ρ' H' p' w' r'=>q u ρ' H' p' w' r'
theorem wQ{K:PySem.W.Frag}{cl:Nat→Addr}{N:List Str}{F:FZ}{n:Nat}{vs:List V}{H:Hp}{Q:VK}{E:XK}(h:Bp K cl n (nA N F) vs H Q E):Bp K cl n (mz N F) vs H Q E:=by
 obtain⟨hl,ρ,S,xs,v,S',w,r,hg,q⟩:=h
 obtain⟨v1,S1,h1,h2⟩:=R3.ak hg
 refine⟨hl,ρ,S,xs,v1,S1,w,r,h1,fun u ρ1 H1 p1 w1 r1=>?_⟩
 have pc:Pre ρ H (ρ1.cut S.length) H1:=SW.Fg (K:=K) (cl:=cl) (by rw[w.len];exact Nat.le_refl _) p1
 split at h2
 ·rename_i d e
  obtain⟨ok,h3⟩:=R3.bo h2
  obtain⟨ok,hk⟩:=Bool.and_eq_true_iff.mp ok
  cases h3
  refine q u _ H1 pc (w1.cut ok) ?_
  unfold bp
  refine r1.resB w1 (iU _) (fun k a hk a1 ha=>?_) hk e
  rcases P3.cy.mp ha with⟨z,_⟩ | z
  ·obtain⟨j,hj⟩:=List.getElem?_of_mem z
   have hj:(ρ1.r.take S.length)[j]? =some a:=hj
   rw[List.getElem?_take] at hj
   split at hj
   ·rename_i hjl
    have:=w1.nd j k a hj a1
    omega
   ·cases hj
  ·exact(w1.zb a z).2 (List.mem_of_getElem? a1)
 ·cases h2
end L3
end
section
set_option maxRecDepth 100000
set_option maxHeartbeats 4000000
namespace L3
open PySem PySem.Spec PyProof.Rows L2
theorem aH.setAt{K:PySem.W.Frag}{ρ:P3}{H:Hp}:∀{ds:List D} {xs:List V} {m:Nat} {d:D} {v:V},aH K ρ.b H ds xs→Rep K ρ.b H d v→aH K ρ.b H (ds.set m d) (xs.set m v)
 | [],_,_,_,_,h,_=>by unfold aH at h;subst h;exact aH.nil
 | e ::ds,xs,0,d,v,h,r=>by
   obtain⟨x,r',rfl,h1,h2⟩:=h.cu
   exact aH.cons r h2
 | e ::ds,xs,m+1,d,v,h,r=>by
   obtain⟨x,r',rfl,h1,h2⟩:=h.cu
   exact aH.cons h1 (aH.setAt h2 r)
section
variable {X:Cx} {cl:Nat→Addr}
theorem tF{o i e:Expr}{fo fi fe:FX}{spos pos:Pos}(he:PX X cl e fe)
 (hg:PG X (.Subscript o i spos) (Ia (tX X.K cl fo) (tX X.K cl fi) EB))
 (hs:swapsWithSole [.Subscript o i spos] e pos.line X.env=pure false:=by rfl) (hw:swappedStores [.Subscript o i spos] e X.env=pure none:=by rfl)
 (h1:(assignEach [.Subscript o i spos] X.env).map (·.2)=[assign (.Subscript o i spos) X.env]:=by rfl):PZ X cl (.Assign [.Subscript o i spos] e pos) (we fo fi fe):=⟨(zS he.1 hg hs hw h1).imp fun D σ H ⟨ρ,S,δ,ou,S',E,hf,q⟩=>by
 obtain⟨v,S1,h1,h2⟩:=R3.ak hf
 obtain⟨vo,S2,h3,h4⟩:=R3.ak h2
 obtain⟨vi,S3,h5,h6⟩:=R3.ak h4
 split at h6
 ·rename_i d k n
  split at h6
  ·rename_i ds hds
   split at h6
   ·rename_i m hm
    cases h6
    refine⟨ρ,S,δ, .d d,S1,E,h1,fun u ρ1 H1 p1 w1 r1=>⟨ρ1,S1,δ, .loc k,S2,E.to p1 w1,h3,fun u2 ρ2 H2 p2 w2 r2=>⟨ρ2,S2,δ, .d (.int n),S3,(E.to p1 w1).to p2 w2,h5,fun u3 ρ3 H3 p3 w3 r3=>?_⟩⟩⟩
    unfold bp at r2
    obtain⟨a,a1,rfl⟩:=r2
    have a3:=p3.ext k a a1
    obtain⟨xs,x1,x2⟩:=w3.ob k a _ a3 (dI hds)
    unfold bp Rep at r3
    have r1':=r1.pre (p2.trans p3)
    unfold bp at r1'
    obtain⟨w4,p4⟩:=w3.put (o:= .lst (ds.set m d)) (u:= .lst (xs.set m u)) a3 (w3.fz k a a3 (by rw[dI hds];intro h;cases h)) ⟨xs.set m u,rfl,aH.setAt x2 r1'⟩
    exact⟨a,xs,n,m,rfl,r3,x1,by rw[←x2.length];exact hm,q σ ρ3 _ (((p1.trans p2).trans p3).trans p4) (E.to (((p1.trans p2).trans p3).trans p4) w4)⟩
   ·cases h6
  ·cases h6
 ·cases h6⟩
noncomputable def kX(δ:DE)(i:Nat):Option V3:=match δ[i]? with | some (some v)=>some v | _=>none
noncomputable def eB(own:List Str)(kp:List Nat)(δ:DE):DE:=List.replicate own.length none++kp.map (kX δ)
theorem yk{K:PySem.W.Frag}{ρ ρ':P3}{H H':Hp}{S S':aS}{σ:L2.St}{δ:DE}{own:List Str}{kp:List Nat}(E:eV K cl ρ H S σ δ)(p:PW ρ H ρ' H')(w:SW K cl ρ' H' S'):eV K cl ρ' H' S' (dj own kp σ) (eB own kp δ) where
 len:=by unfold dj eB;simp
 sw:=w
 val:=fun i d e=>by
  unfold eB at e
  unfold dj
  by_cases hi:i < own.length
  ·rw[List.getElem?_append_left (by simpa using hi),List.getElem?_replicate] at e
   split at e <;> cases e
  ·rw[List.getElem?_append_right (by simpa using hi),List.length_replicate,List.getElem?_map] at e ⊢
   cases q:kp[i - own.length]? with
   | none=>rw [q] at e;cases e
   | some j=>
     rw[q] at e
     have e:kX δ j=some d:=Option.some.inj e
     unfold kX at e
     split at e
     ·rename_i d' ed
      cases e
      obtain⟨v,h1,h2⟩:=E.val j d ed
      exact⟨v,by simp [h1],h2.pw p⟩
     ·cases e
noncomputable def jG(t:FG)(c:FB)(f:FX)(δ:DE):List V3→aS→R3 (List V3)
 | [],S=> .ok [] S
 | v ::vs,S=>match t v δ with
   | none=> .no
   | some δ1=>(c δ1 S).bind fun b S1=>if b then(f δ1 S1).bind fun y S2=>(jG t c f δ vs S2).bind fun ys S3=> .ok (y ::ys) S3 else jG t c f δ vs S1
noncomputable def jO(it:FA)(t:FG)(c:FB)(f:FX)(own:List Str)(kp:List Nat):FX:=fun δ S=>(it δ S).bind fun vs S1=>R3.bZ (decide (vs.length≤sizeLine)) ((jG t c f (eB own kp δ) vs S1).bind fun ys S2=> .ok (ig ys) S2)
theorem aF.append{K:PySem.W.Frag}{ρ:P3}{H:Hp}:∀{ds es:List V3} {xs ys:List V},aF K ρ H ds xs→aF K ρ H es ys→aF K ρ H (ds++es) (xs++ys)
 | [],_,_,_,h,t=>by unfold aF at h;subst h;exact t
 | d ::ds,es,xs,ys,h,t=>by
   obtain⟨x,r,rfl,h1,h2⟩:=h.cu
   exact aF.cons h1 (aF.append h2 t)
theorem xx{K:PySem.W.Frag}{it:FA}{t:FG}{c:FB}{f:FX}{own:List Str}{kp:List Nat}{σ:L2.St}{H:Hp}{Q:VK}(h:tX K cl (jO it t c f own kp) σ H Q) :
 u7 (Ji K cl it) (gX K cl t) (CW K cl c) (tX K cl f) own kp σ H Q:=by
 obtain⟨ρ,S,δ,v,SF,E,hf,q⟩:=h
 obtain⟨es,S1,h1,h2⟩:=R3.ak hf
 obtain⟨hl,h3⟩:=R3.bo h2
 have hl:=of_decide_eq_true hl
 obtain⟨vs,S2,h4,h5⟩:=R3.ak h3
 cases h5
 refine⟨ρ,S,δ,es,S1,E,h1,fun J ρ1 H1 p1 w1 ir Dd hD=>?_⟩
 have nDz:Dd ∉ ρ1.b:=fun hb=>by obtain⟨o,ho⟩:=w1.bs Dd hb;rw [hD] at ho;cases ho
 have nDr:Dd ∉ ρ1.r:=fun hb=>by obtain⟨o,ho⟩:=w1.rs Dd hb;rw [hD] at ho;cases ho
 have toZ:∀{r' f':List Addr} {H':Hp},Pre ρ1 H1 ⟨r',ρ1.z,f'⟩ H'→PW ρ1 H1 ⟨r',Dd ::ρ1.z,f'⟩ H':=fun {r' f' H'} p=>⟨fun b o e nb=>⟨(p.br b o e nb).1,fun hb=>by
  rcases P3.cy.mp hb with z | z
  ·exact(p.br b o e nb).2 (P3.cy.mpr (.inl z))
  ·rcases List.mem_cons.mp z with y | y
   ·exact bO e hD y
   ·exact(p.br b o e nb).2 (P3.cy.mpr (.inr y))⟩,p.ext⟩
 have w0:SW K cl ⟨ρ1.r,Dd ::ρ1.z,ρ1.f⟩ (upd H1 Dd (.lst [])) S1:=by
  have s0:aY H1 (upd H1 Dd (.lst [])):=bh hD
  have ws:=w1.same s0
  refine⟨ws.len,ws.nd,fun k a o hk ho=>?_,fun b hb=>?_,ws.fz,ws.ff,ws.fi⟩
  ·have r:=w1.ob k a o hk ho
   obtain⟨u,hu⟩:=r.some
   rw[s0 a u hu,←hu]
   exact r.pw (toZ (Pre.same s0))
  ·rcases List.mem_cons.mp hb with y | y
   ·subst y;exact⟨⟨_,a_⟩,nDr⟩
   ·exact ws.zb b y
 refine⟨fun i m ys H'=>m=es.length - i∧i≤es.length∧ys.length≤i∧H' Dd=some (.lst ys)∧∃r' f' S' done rest,Pre ρ1 H1 ⟨r',ρ1.z,f'⟩ H'∧SW K cl ⟨r',Dd ::ρ1.z,f'⟩ H' S'∧vs=done++rest∧aF K ⟨r',Dd ::ρ1.z,f'⟩ H' done ys∧jG t c f (eB own kp δ) (es.drop i) S'= .ok rest SF,
  ⟨es.length,rfl,Nat.zero_le _,Nat.le_refl _,a_,ρ1.r,ρ1.f,S1,[],vs,Pre.same (bh hD),w0,rfl,aF.nil,by simpa using h4⟩,?_⟩
 rintro i m ys H' ⟨rfl,hi,hy,hDl,r',f',S',done,rest,pv,w',rfl,rd,hc⟩
 obtain⟨go,stop⟩:=ir ⟨r',Dd ::ρ1.z,f'⟩ H' (toZ pv) w'.bs
 have unZ:∀{ρ4:P3} {H4:Hp},Pre ⟨r',Dd ::ρ1.z,f'⟩ H' ρ4 H4→Pre ρ1 H1 ⟨ρ4.r,ρ1.z,ρ4.f⟩ H4:=fun {ρ4 H4} p4=>⟨fun b o e nb=>by
  obtain⟨e1,n1⟩:=(toZ pv).br b o e nb
  obtain⟨e2',n2⟩:=p4.br b o e1 n1
  refine⟨e2',fun hb=>n2 ?_⟩
  rcases P3.cy.mp hb with z | z
  ·exact P3.cy.mpr (.inl z)
  ·exact P3.cy.mpr (.inr (by rw[p4.zz];exact List.mem_cons_of_mem _ z)),rfl,fun b o hb h=>p4.zs b o (List.mem_cons_of_mem _ hb) (pv.zs b o hb h),fun k a h=>p4.ext k a (pv.ext k a h)⟩
 by_cases hlt:i < es.length
 ·have hd:es[i]? =some es[i]:=List.getElem?_eq_getElem hlt
  have hdrop:es.drop i=es[i] ::es.drop (i+1):=List.drop_eq_getElem_cons hlt
  rw[hdrop] at hc
  unfold jG at hc
  split at hc
  ·cases hc
  ·rename_i δ1 h6
   obtain⟨b,T1,h7,h8⟩:=R3.ak hc
   obtain⟨g1,g2⟩:=go i _ hd
   refine .inr ⟨g1,fun x H2 y=>?_⟩
   obtain⟨sy,ry⟩:=g2 x H2 y
   have Ec:eV K cl ⟨r',Dd ::ρ1.z,f'⟩ H2 S' (dj own kp σ) (eB own kp δ):=yk E (p1.pw.trans ((toZ pv).trans (Pre.same sy).pw)) (w'.same sy)
   refine⟨⟨r',Dd ::ρ1.z,f'⟩,S',eB own kp δ,es[i],δ1,Ec,ry,h6,fun σ3 H3 s3 E3=>⟨⟨r',Dd ::ρ1.z,f'⟩,S',δ1,b,T1,E3,h7,fun ρ4 H4 p4 w4=>?_⟩⟩
   have pv4:Pre ⟨r',Dd ::ρ1.z,f'⟩ H' ρ4 H4:=(Pre.same (sy.trans s3)).trans p4
   cases b with
   | true=>
     rw[if_pos rfl] at h8
     refine yS ?_
     obtain⟨yv,T2,h9,h10⟩:=R3.ak h8
     obtain⟨rs,T3,h11,h12⟩:=R3.ak h10
     cases h12
     refine⟨ρ4,T1,δ1,yv,T2,E3.to p4 w4,h9,fun v5 ρ5 H5 p5 w5 r5=>?_⟩
     have pv5:Pre ⟨r',Dd ::ρ1.z,f'⟩ H' ρ5 H5:=pv4.trans p5
     have hD5:H5 Dd=some (.lst ys):=pv5.zs Dd _ List.mem_cons_self hDl
     have u5:=unZ pv5
     obtain⟨r5',z5,f5⟩:=ρ5
     have ez:z5=Dd ::ρ1.z:=pv5.zz
     subst ez
     have nr:Dd ∉ r5':=(w5.zb Dd List.mem_cons_self).2
     have pw:PW ⟨r5',Dd ::ρ1.z,f5⟩ H5 ⟨r5',Dd ::ρ1.z,f5⟩ (upd H5 Dd (.lst (ys++[v5]))):=⟨fun b o e nb=>⟨by rw[bg (fun(z:b=Dd)=>nb (by rw[z];exact P3.cy.mpr (.inr List.mem_cons_self)))];exact e,nb⟩,fun _ _ h=>h⟩
     refine⟨hD5,by omega,es.length - (i+1),by omega,rfl,hlt,by rw[List.length_append,List.length_singleton];omega,a_,r5',f5,T2,done++[yv],rs,?_,?_,by simp,aF.append ((rd.pre pv5).pw pw) (aF.cons (r5.pw pw) aF.nil),h11⟩
     ·refine⟨fun b o e nb=>⟨by rw[bg (bO e hD)];exact(u5.br b o e nb).1,(u5.br b o e nb).2⟩,rfl,fun b o hb h=>?_,u5.ext⟩
      rw[bg (bO h hD)]
      exact u5.zs b o hb h
     ·refine⟨w5.len,w5.nd,fun k a o hk ho=>?_,fun b hb=>?_,w5.fz,fun b hb=>?_,w5.fi⟩
      ·have ne:a≠Dd:=fun z=>nr (by rw[←z];exact List.mem_of_getElem? hk)
       rw[bg ne]
       exact(w5.ob k a o hk ho).pw pw
      ·obtain⟨⟨o,ho⟩,n⟩:=w5.zb b hb
       refine⟨?_,n⟩
       by_cases z:b=Dd
       ·subst z;exact⟨_,a_⟩
       ·rw[bg z];exact⟨o,ho⟩
      ·obtain⟨o,ho⟩:=w5.ff b hb
       by_cases z:b=Dd
       ·subst z;exact⟨_,a_⟩
       ·rw[bg z];exact⟨o,ho⟩
   | false=>
     rw[if_neg (by decide)] at h8
     refine zw ?_
     have hD4:H4 Dd=some (.lst ys):=pv4.zs Dd _ List.mem_cons_self hDl
     have u4:=unZ pv4
     obtain⟨r4',z4,f4⟩:=ρ4
     have ez:z4=Dd ::ρ1.z:=pv4.zz
     subst ez
     exact⟨es.length - (i+1),by omega,rfl,hlt,by omega,hD4,r4',f4,T1,done,rest,u4,w4,rfl,rd.pre pv4,h8⟩
 ·have e:i=es.length:=by omega
  subst e
  rw[List.drop_length] at hc
  cases hc
  rw[List.append_nil] at q
  refine .inl ⟨stop,?_⟩
  have back:PW ⟨r',Dd ::ρ1.z,f'⟩ H' ⟨r',ρ1.z,f'⟩ H':=⟨fun b o e nb=>⟨e,fun hb=>nb (by
   rcases P3.cy.mp hb with z | z
   ·exact P3.cy.mpr (.inl z)
   ·exact P3.cy.mpr (.inr (List.mem_cons_of_mem _ z)))⟩,fun _ _ h=>h⟩
  have wB:SW K cl ⟨r',ρ1.z,f'⟩ H' _:=⟨w'.len,w'.nd,fun k a o hk ho=>(w'.ob k a o hk ho).pw back,fun b hb=>w'.zb b (List.mem_cons_of_mem _ hb),w'.fz,w'.ff,w'.fi⟩
  refine q _ ⟨r',ρ1.z,f'⟩ H' (p1.trans pv) wB (sE (.inl ⟨fun hb=>?_, .inl hDl⟩) (rd.pw back))
  rcases P3.cy.mp hb with z | z
  ·exact(w'.zb Dd List.mem_cons_self).2 z.1
  ·exact nDz (P3.cy.mpr (.inr z))
end
end L3
end
section
set_option maxRecDepth 100000
set_option maxHeartbeats 4000000
namespace L3
open PySem PySem.Spec PyProof.Rows L2
section
variable {X:Cx} {cl:Nat→Addr}
theorem ny{scope:Scope}{own:List Str}{kp:List Nat}{kn:List Str}{tg iter elt:Expr}{ifs:List Expr}{it:FA}{t:FG}{c:FB}{f:FX}{pos:Pos}(hc:X.calm=true)(C:cz X scope own kp kn)(hi:Fe X cl tg iter it)
 (hg:∀fp s H,E_ (bN X scope (own++kn) fp s H) cl tg t) (hif:∀fp s H,nj (bN X scope (own++kn) fp s H) ifs (CW X.K cl c)) (he:∀fp s H,PX (bN X scope (own++kn) fp s H) cl elt f)
 (hs:∀x,foldedSetIterable iter X.env x=pure x:=by intro _;rfl):PX X cl (.ListComp elt [⟨tg,iter,ifs,0⟩] scope pos) (jO it t c f own kp):=
 ⟨(t_ hc C hi.1 (fun fp s H=>(hg fp s H).1) hif (fun fp s H=>(he fp s H).1) hs).imp fun σ H Q h=>xx h⟩
noncomputable def uW:FB:=fun _ S=> .ok true S
theorem iI:nj X [] (CW X.K cl uW):=fun pins s σ H Q I ⟨ρ,S,δ,b,S',E,hf,q⟩=>uS pins s σ H Q I (by cases hf;exact q ρ H (Pre.refl ρ H) E.sw)
theorem uU{e:Expr}{c:FB}(h:C9 X cl e c):nj X [e] (CW X.K cl c):=vf h.1
theorem F7{K:PySem.W.Frag}{i:Nat}{f:FX}{D:Ends}{σ:L2.St}{H:Hp}(h:sX K cl (cA i f) D σ H):zg (tX K cl f) (qd i) D σ H:=by
 obtain⟨ρ,S,δ,o,S',E,hf,q⟩:=h
 obtain⟨v,S1,h1,h2⟩:=R3.ak hf
 obtain⟨hi,h3⟩:=R3.bo h2
 cases h3
 refine⟨ρ,S,δ,v,_,E,h1,fun u ρ1 H1 p1 w1 r1=>?_⟩
 exact q _ ρ1 H1 p1 ((E.to p1 w1).set (by rw[←E.len];exact of_decide_eq_true hi) r1)
theorem p8{i:Nat}{x:Str}{pos' spos:Pos}{scope:Scope}{own:List Str}{kp:List Nat}{kn:List Str}{tg iter elt:Expr}{ifs:List Expr}{it:FA}{t:FG}{c:FB}{f:FX}{pos:Pos}(hc:X.calm=true)
 (hN:X.N.Nodup) (hx:X.N[i]? =some x) (hxl:X.env.scope.names.lookup x=some .local) (C:cz X scope own kp kn) (hi:Fe X cl tg iter it)
 (hg:∀fp s H,E_ (bN X scope (own++kn) fp s H) cl tg t) (hif:∀fp s H,nj (bN X scope (own++kn) fp s H) ifs (CW X.K cl c)) (he:∀fp s H,PX (bN X scope (own++kn) fp s H) cl elt f)
 (hsw:swapsWith (.ListComp elt [⟨tg,iter,ifs,0⟩] scope pos) (some (.Name x pos')) spos.line X.env=pure true:=by rfl)
 (hs:∀x,foldedSetIterable iter X.env x=pure x:=by intro _;rfl):PZ X cl (.Assign [.Name x pos'] (.ListComp elt [⟨tg,iter,ifs,0⟩] scope pos) spos) (cA i (jO it t c f own kp)):=
 ⟨(xf hc hN hx hxl C hi.1 (fun fp s H=>(hg fp s H).1) hif (fun fp s H=>(he fp s H).1) hsw hs).imp fun D σ H h=>xx (F7 h)⟩
noncomputable def Mc(g:FA):FX:=fun δ S=>(g δ S).bind fun vs S1=>match jB vs with
 | some ds=>R3.bZ (decide (ds.length≤sizeLine)) (.ok (.loc S1.length) (S1++[.lst ds]))
 | none=> .no
end
end L3
end
section
set_option maxRecDepth 100000
set_option maxHeartbeats 4000000
namespace L3
open PySem PySem.Spec PyProof.Rows L2
section
variable {X:Cx} {cl:Nat→Addr}
noncomputable def nR(g:List D→R D)(fs:FA):FX:=fun δ S=>(fs δ S).bind fun vs S1=>match jB vs with
 | some ds=>(R3.of (g ds) S1).bind fun d S=> .ok (.d d) S
 | none=> .no
theorem B7{K:PySem.W.Frag}{g:List D→R D}{fs:FA}{σ:L2.St}{H:Hp}{Q:VK}(h:tX K cl (nR g fs) σ H Q) :
 Kl K cl fs σ H fun vs H1=>∃B ds d,(∀a∈B,∃o,H1 a=some o)∧aH K B H1 ds vs∧g ds= .ok d∧∀z H',aY H1 H'→Rep K B H' d z→Q z H':=by
 obtain⟨ρ,S,δ,v,S',E,hf,q⟩:=h
 obtain⟨vs,S1,h1,h2⟩:=R3.ak hf
 split at h2
 ·rename_i ds e
  obtain⟨d,S2,h3,h4⟩:=R3.ak h2
  obtain⟨h5,e5⟩:=R3.of_ok h3
  cases h4
  subst e5
  refine⟨ρ,S,δ,vs,_,E,h1,fun us ρ1 H1 p1 w1 r1=>?_⟩
  rw[gA e] at r1
  exact⟨ρ1.b,ds,d,w1.bs,r1.to,h5,fun z H' s r=>q z ρ1 H' (p1.trans (Pre.same s)) (w1.same s) (by unfold bp;exact r)⟩
 ·cases h2
theorem AX{g:List D→R D}{x:Str}{id:String}{p pos:Pos}{e:Expr}{es:List Expr}{fs:FA}(hc:cT X (.builtin id) g)(hg:Gl X x)(hm:X.mg x=none)(hv:bootBuiltins x=some (.builtin id))(ha:zV X cl (e ::es) fs)(hn:x≠"__name__":=by decide)(hdb:(x==("__debug__":Str))=false:=by decide)
 (he:starEach (e ::es) X.env=(false,eval e X.env) ::starEach es X.env:=by rfl) (hpl:(backTo pos (starEach es X.env)).any (·.1)=false:=by rfl):PX X cl (.Call (.Name x p) (e ::es) [] pos) (nR g fs):=
 ⟨(qv hc.r hg hm hv ha.1 hn hdb he hpl).imp fun σ H Q h=>B7 h⟩
noncomputable def LV(c:FB)(f g:FX):FX:=fun δ S=>(c δ S).bind fun b S=>if b then f δ S else g δ S
theorem aK:∀(δ:DE) (S:aS) (ds:List V3) (S':aS),bW δ S= .ok ds S'→ds.length=0:=fun δ S ds S' h=>by cases h;rfl
theorem aj{f:FX}{g:FA}{n:Nat}(h:∀(δ:DE) (S:aS) (ds:List V3) (S':aS),g δ S= .ok ds S'→ds.length=n):∀(δ:DE) (S:aS) (ds:List V3) (S':aS),ay f g δ S= .ok ds S'→ds.length=n+1:=fun δ S ds S' e=>by
 obtain⟨v,S1,h1,h2⟩:=R3.ak e
 obtain⟨vs,S2,h3,h4⟩:=R3.ak h2
 cases h4
 rw[List.length_cons,h δ S1 vs _ h3]
end
end L3
end
section
set_option maxRecDepth 100000
set_option maxHeartbeats 4000000
namespace L3
open PySem PySem.Spec PyProof.Rows L2
theorem sj{K:PySem.W.Frag}{ρ:P3}{H:Hp}{ds:List V3}{xs:List V}{i:Int}{d:V3}(r:aF K ρ H ds xs)(h:oe ds i=some d):∃x,oe xs i=some x∧bp K ρ H d x:=by
 unfold oe at h ⊢
 rw[←r.length]
 cases e:qp ds.length i with
 | none=>rw [e] at h;cases h
 | some j=>
   rw[e] at h
   exact r.get h
section
variable {X:Cx} {cl:Nat→Addr}
noncomputable def yQ(fa fb:FX):FX:=fun δ S=>(fa δ S).bind fun a S1=>(fb δ S1).bind fun b S2=>match a,b with
 | .d x, .d y=>(R3.of (ck x y) S2).bind fun d S=> .ok (.d d) S
 | .lst vs, .d (.int i)=>(match oe vs i with | some v=> .ok v S2 | none=> .no)
 | .tup vs, .d (.int i)=>(match oe vs i with | some v=> .ok v S2 | none=> .no)
 | _,_=> .no
theorem mP{a b:Expr}{fa fb:FX}{pos:Pos}(ha:PX X cl a fa)(hb:PX X cl b fb)(hs:pE b):PX X cl (.Subscript a b pos) (yQ fa fb):=by
 refine⟨(Ej (r:=JF X.K) AY ha.1 hb.1 hs).imp fun σ H Q ⟨ρ,S,δ,v,S',E,hf,q⟩=>?_⟩
 obtain⟨v1,S1,h1,h2⟩:=R3.ak hf
 obtain⟨v2,S2,h3,h4⟩:=R3.ak h2
 refine⟨ρ,S,δ,v1,S1,E,h1,fun u1 ρ1 H1 p1 w1 r1=>⟨ρ1,S1,δ,v2,S2,E.to p1 w1,h3,fun u2 ρ2 H2 p2 w2 r2=>?_⟩⟩
 have r1':=r1.pre p2
 have p12:=p1.trans p2
 split at h4
 ·rename_i x y
  obtain⟨d,S3,h5,h6⟩:=R3.ak h4
  obtain⟨h7,e7⟩:=R3.of_ok h5
  cases h6
  subst e7
  unfold bp at r1' r2
  unfold ck at h7
  split at h7
  ·split at h7
   ·rename_i e
    cases h7
    obtain⟨p,xs,rfl,l,rs⟩:=Rep.lst.mp r1'
    obtain⟨y,e1,e2⟩:=m7 rs e
    exact .inl ⟨p,xs,_,y,rfl,Rep.int.mp r2,l.sq,e1,q y ρ2 H2 p12 w2 (by unfold bp;exact e2)⟩
   ·cases h7
  ·split at h7
   ·rename_i e
    cases h7
    obtain⟨p,xs,rfl,l,rs⟩:=Rep.tup.mp r1'
    obtain⟨y,e1,e2⟩:=m7 rs e
    exact .inr (.inl ⟨p,xs,_,y,rfl,Rep.int.mp r2,l.sq,e1,q y ρ2 H2 p12 w2 (by unfold bp;exact e2)⟩)
   ·cases h7
  ·obtain⟨hl,h8⟩:=R.bo h7
   split at h8
   ·rename_i e
    cases h8
    exact .inr (.inr ⟨_,_,_,Rep.str.mp r1',Rep.int.mp r2,of_decide_eq_true hl,e,q _ ρ2 H2 p12 w2 (by unfold bp;exact Rep.str.mpr rfl)⟩)
   ·cases h8
  ·cases h7
 ·split at h4
  ·rename_i e
   cases h4
   unfold bp at r1' r2
   obtain⟨p,xs,rfl,l,rs⟩:=r1'
   obtain⟨y,e1,e2⟩:=sj rs e
   exact .inl ⟨p,xs,_,y,rfl,Rep.int.mp r2,l.sq,e1,q y ρ2 H2 p12 w2 e2⟩
  ·cases h4
 ·split at h4
  ·rename_i e
   cases h4
   unfold bp at r1' r2
   obtain⟨p,xs,rfl,l,rs⟩:=r1'
   obtain⟨y,e1,e2⟩:=sj rs e
   exact .inr (.inl ⟨p,xs,_,y,rfl,Rep.int.mp r2,l.sq,e1,q y ρ2 H2 p12 w2 e2⟩)
  ·cases h4
 ·cases h4
end
end L3
end
section
set_option maxRecDepth 100000
set_option maxHeartbeats 4000000
namespace L3
open PySem PySem.Spec PyProof.Rows L2
section
variable {X:Cx} {cl:Nat→Addr}
structure G2 (X:Cx) (cl:Nat→Addr) (e:Expr) (f:FB):Prop where
 go:L2.PW X e (CW X.K cl f)
theorem G2.pb{e:Expr}{f:FB}(h:G2 X cl e f):C9 X cl e f:=⟨L2.PW.pt h.1⟩
noncomputable def FQ(f g:FB):FB:=fun δ S=>(f δ S).bind fun b S=>if b then g δ S else .ok false S
noncomputable def L_(f g:FB):FB:=fun δ S=>(f δ S).bind fun b S=>if b then .ok true S else g δ S
noncomputable def K6(f:FB):FB:=fun δ S=>(f δ S).bind fun b S=> .ok (!b) S
theorem zW{a:Expr}{f:FB}{pos:Pos}(h:C9 X cl a f):G2 X cl (.BoolOp .And [a] pos) f:=⟨xR h.1⟩
theorem Cv{a b:Expr}{rest:List Expr}{f g:FB}{pos:Pos}(ha:C9 X cl a f)(hb:G2 X cl (.BoolOp .And (b ::rest) pos) g):G2 X cl (.BoolOp .And (a ::b ::rest) pos) (FQ f g):=⟨by
 intro wh pins s σ H Q I ⟨ρ,S,δ,k,S',E,hf,q⟩
 refine BJ ha.1 hb.1 wh pins s σ H Q I ?_
 obtain⟨c,S1,h1,h2⟩:=R3.ak hf
 refine⟨ρ,S,δ,c,S1,E,h1,fun ρ1 H1 p1 w1=>?_⟩
 cases c with
 | true=>rw [if_pos rfl] at h2 ⊢;exact⟨ρ1,S1,δ,k,S',E.to p1 w1,h2,fun ρ2 H' p2 w2=>q ρ2 H' (p1.trans p2) w2⟩
 | false=>rw [if_neg (by decide)] at h2 ⊢;cases h2;exact q ρ1 H1 p1 w1⟩
noncomputable def LJ(f:FX):FB:=fun δ S=>(f δ S).bind fun v S=>match v with | .d d=>R3.of (qy d) S | _=> .no
noncomputable abbrev Hm:=DE→aS→R3 (Option Int)
noncomputable def Lc(K:PySem.W.Frag)(cl:Nat→Addr)(f:Hm):TO:=fun σ H Q=>∃ρ S δ o S',eV K cl ρ H S σ δ∧f δ S= .ok o S'∧∀ρ' H',Pre ρ H ρ' H'→SW K cl ρ' H' S'→Q o H'
structure L5 (X:Cx) (cl:Nat→Addr) (e:Option Expr) (f:Hm):Prop where
 go:PO X e (Lc X.K cl f)
noncomputable def I_:Hm:=fun _ S=> .ok none S
noncomputable def Jp(f:FX):Hm:=fun δ S=>(f δ S).bind fun v S=>match v with | .d (.int i)=> .ok (some i) S | _=> .no
noncomputable def Md(f:FX)(fl fh:Hm):FX:=fun δ S=>(f δ S).bind fun v S1=>(fl δ S1).bind fun lo S2=>(fh δ S2).bind fun hi S3=>match v with
 | .d d=>(R3.of (DS d lo hi) S3).bind fun r S=> .ok (.d r) S
 | _=> .no
end
end L3
end
section
set_option maxRecDepth 100000
set_option maxHeartbeats 4000000
namespace L2
open PySem PySem.Spec PyProof.Rows
section
variable {X:Cx}
noncomputable def mj(t T:String):Bool:=t==T || (t=="bool" && T=="int")
theorem nO{K:PySem.W.Frag}(t T:String)(ht:t∈["NoneType","bool","int","str","list","tuple"])(hT:T∈["bool","int","str","list","tuple"]):PySem.W.kitOne K (.type t) (.type T)=some (mj t T):=by
 simp only[List.mem_cons,List.not_mem_nil,or_false] at ht hT
 rcases ht with rfl | rfl | rfl | rfl | rfl | rfl <;> rcases hT with rfl | rfl | rfl | rfl | rfl <;> rfl
noncomputable def jL(T:String)(f:FD):FD:=fun δ=>(f δ).bind fun d=>match d with | .dct _ _=> .no | _=> .ok (.bl (mj (tyName d) T))
theorem gm{T:Str}{Ts:String}{p p2 pos:Pos}{e:Expr}{f:FD}(he:QD X e f)(hT:Ts∈["bool","int","str","list","tuple"])(hg:Gl X "isinstance")(hm:X.mg "isinstance"=none)(hgT:Gl X T)(hmT:X.mg T=none)(hvT:bootBuiltins T=some (.type Ts))(hnT:T≠"__name__":=by decide)(hdT:(T==("__debug__":Str))=false:=by decide)
 (hs:starEach [e, .Name T p2] X.env=(false,eval e X.env) ::starEach [.Name T p2] X.env:=by rfl) (hpl:(backTo pos (starEach [.Name T p2] X.env)).any (·.1)=false:=by rfl):QD X (.Call (.Name "isinstance" p) [e, .Name T p2] [] pos) (jL Ts f):=by
 have hc:jU X (.builtin "isinstance") (fun xs H Q=>∃B d x,Rep X.K B H d x∧(∀a b,d≠ .dct a b)∧xs=[x, .ty Ts]∧Q (.bl (mj (tyName d) Ts)) H):=by
  intro pins s σ H xs us Q I r h
  obtain⟨B,d,x,rd,ha,rfl,q⟩:=h
  obtain⟨u,w',rfl,ru,rw'⟩:=vals2 r
  cases rw'
  have fin:∀tk,EP X pins σ Q (.bool (mj (tyName d) Ts)) {s with toks:=tk}:=fun tk=>⟨.bl _,H,I.tok _,rfl,q⟩
  cases d with
  | cI=>exact lD I ru (by rw[Rep.cI.mp rd];exact .cI) (nO "NoneType" Ts (by decide) hT) fin
  | bl b=>exact lD I ru (by rw[Rep.bl.mp rd];exact .bl b) (nO "bool" Ts (by decide) hT) fin
  | int i=>exact lD I ru (by rw[Rep.int.mp rd];exact .int i) (nO "int" Ts (by decide) hT) fin
  | str z=>exact lD I ru (by rw[Rep.str.mp rd];exact .str z) (nO "str" Ts (by decide) hT) fin
  | lst es=>
    obtain⟨a,ys,rfl,l,_⟩:=Rep.lst.mp rd
    cases(show u=Value.ref a from ru)
    obtain⟨its2,n2,r2,h1,z2⟩:=I.Ef l
    exact PySem.W.kia_one PySem.W.kitx_list I.nC ⟨_,h1,rfl⟩ (nO "list" Ts (by decide) hT) (fun z=>nomatch z) fin
  | tup es=>
    obtain⟨a,ys,rfl,l,_⟩:=Rep.tup.mp rd
    cases(show u=Value.ref a from ru)
    obtain⟨its,rv,p,hz⟩:=I.tuple l.sq
    obtain⟨o,h1,h2,_⟩:=p
    exact PySem.W.kia_one PySem.W.kitx_tuple I.nC ⟨o,h1,h2⟩ (nO "tuple" Ts (by decide) hT) (fun z=>nomatch z) fin
  | dct a b=>exact absurd rfl (ha a b)
 refine⟨(qv hc hg hm boot_isinstance (fJ he.1 (fJ (C2 (v:= .ty Ts) hgT hmT hvT rfl hnT hdT) iX) hs) (by decide) (by decide) hs hpl).imp fun σ H Q ⟨Z,B,δ,d,E,hf,q⟩=>?_⟩
 obtain⟨d1,h1,h2⟩:=R.ak hf
 have key:(∀a b,d1≠ .dct a b)∧d= .bl (mj (tyName d1) Ts):=by
  cases d1 with
  | dct a b=>cases h2
  | _=>cases h2;exact⟨fun _ _ z=>(by cases z),rfl⟩
 obtain⟨k1,rfl⟩:=key
 exact⟨Z,B,δ,d1,E,h1,fun v H1 s1 r1=>⟨B,d1,v,r1,k1,rfl,q _ H1 s1 (Rep.bl.mpr rfl)⟩⟩
noncomputable def nList(f:FD):aw→R (List D):=fun δ=>(f δ).bind fun d=>match d with | .lst ds=> .ok ds | .tup ds=> .ok ds | _=> .no
end
end L2
namespace L3
open PySem PySem.Spec PyProof.Rows L2
theorem cC{P:Program}{w:World}{K:PySem.W.Frag}{mg:Str→Option Value}{base:Heap}{cl:Nat→Addr}{x qual:Str}{st:Stmt}{f:Addr}{fd:FuncData}{N ps:List Str}{k:Nat}{F:FZ}{b:List Stmt}{sc:Scope}(hb:aq st=b)(hs:ah st=sc)(Fn:xU K x qual st f fd)(S:ba N ps sc)
 (hbody:∀(cdv:Value) (A:Around) (outer:List Env) (s:Shared) (H:Hp) (E:XK),d8 k (A.deeper (envOfC qual sc s.heap.objs.size f cdv))→
   zJ (qi rh P w K mg base N qual sc f cdv A outer s H E).Ct cl b F):hJ P w K mg base rh (k+1) f fd ps (Bp K cl ps.length (mz N F)):=by
 subst hb hs
 exact De Fn S hbody
theorem aI.p{P:Program}{w:World}{K:PySem.W.Frag}{mg:Str→Option Value}{base:Heap}{cl:Nat→Addr}{k:Nat}{x:Str}{n:Nat}{N:List Str}{F:FZ}(C:aI P w K mg base cl k x n (mz N F)):aI P w K mg base cl k x n (nA N F):=
 let⟨f,fd,ps,F,h⟩:=C;⟨f,fd,ps,F.imp fun _ _ _ _ h=>wQ h,h⟩
noncomputable def IP(N:List Str)(F:FZ):List D→R D:=fun ds=>match nA N F (ds.map .d) [] with
 | .ok (.d d) []=>R.bZ d.atom (.ok d)
 | _=> .no
theorem EI{K:PySem.W.Frag}{cl:Nat→Addr}{N:List Str}{F:FZ}{n:Nat}{vs:List V}{H:Hp}{Q:VK}{E:XK}(h:yD K n (IP N F) vs H Q E):Bp K cl n (mz N F) vs H Q E:=by
 obtain⟨hl,B,ds,d,hb,r,hg,q⟩:=h
 unfold IP at hg
 split at hg
 ·rename_i d' e
  obtain⟨ha,h2⟩:=R.bo hg
  cases h2
  have r0:aH K (⟨[],[],[]⟩:P3).b H ds vs:=r.br fun b o e _=>⟨e,by simp [P3.b]⟩
  refine wQ ⟨hl,⟨[],[],[]⟩,[],ds.map .d, .d d,[],⟨rfl,fun i j a hi=>by simp at hi,fun k a o hk=>by simp at hk,fun b hb=>by simp at hb,fun k a hk=>by simp at hk,fun b hb=>by simp at hb,fun k a hk=>by simp at hk⟩,aF.of r0,e,fun u ρ' H' p w' r'=>q u H' (fun b o eb=>?_) ?_⟩
  ·exact(p.br b o eb (by simp [P3.b])).1
  ·unfold bp at r'
   exact r'.atom ha
 ·cases hg
section
variable {X:Cx} {cl:Nat→Addr}
theorem Cb{g:List D→R D}{k j n:Nat}{x:Str}{p pos:Pos}{e:Expr}{es:List Expr}{fs:FA}(C:Callee X.prog X.w X.K X.mg X.base k x n g)(hr:d8 j X.A)(hkj:k≤j)(hg:Gl X x)(ha:zV X cl (e ::es) fs)
 (hn:∀δ S ds S',fs δ S= .ok ds S'→ds.length=n) (hdb:(x==("__debug__":Str))=false:=by decide) (he:starEach (e ::es) X.env=(false,eval e X.env) ::starEach es X.env:=by rfl) (hpl:(backTo pos (starEach es X.env)).any (·.1)=false:=by rfl) :
 PX X cl (.Call (.Name x p) (e ::es) [] pos) (nR g fs):=by
 obtain⟨f,fd,ps,F,hm,hk,hb⟩:=C
 refine⟨(pA F (hr.mono hkj) hg hm hk hb .nil pV ha.1 hdb he hpl).imp fun σ H Q ⟨ρ,S,δ,v,S',E,hf,q⟩=>?_⟩
 obtain⟨vs,S1,h1,h2⟩:=R3.ak hf
 split at h2
 ·rename_i ds e
  obtain⟨d,S2,h3,h4⟩:=R3.ak h2
  obtain⟨h5,e5⟩:=R3.of_ok h3
  cases h4
  subst e5
  refine⟨ρ,S,δ,vs,_,E,h1,fun us ρ1 H1 p1 w1 r1=>?_⟩
  have hl:=hn δ S vs _ h1
  rw[gA e] at r1
  show yD X.K n g (us++[]) H1 Q E0
  rw[List.append_nil]
  exact⟨by rw[←r1.length,←gA e];exact hl,ρ1.b,ds,d,w1.bs,r1.to,h5,fun z H' s r=>q z ρ1 H' (p1.trans (Pre.same s)) (w1.same s) (by unfold bp;exact r)⟩
 ·cases h2
noncomputable def JO(f:FX):FA:=fun δ S=>(f δ S).bind fun v S=>match v with | .d (.tup ds)=> .ok (ds.map .d) S | .tup vs=> .ok vs S | _=> .no
end
end L3
end
section
set_option maxRecDepth 100000
set_option maxHeartbeats 4000000
namespace L3
open PySem PySem.Spec PyProof.Rows L2
noncomputable def W3{α:Type}(r:R3 α)(Q:α→aS→Prop):Prop:=∃a S,r= .ok a S∧Q a S
section
variable {α β:Type} {Q Q':α→aS→Prop} {S:aS} {δ:DE}
theorem W3.ok{a:α}(h:Q a S):W3 (.ok a S) Q:=⟨a,S,rfl,h⟩
theorem W3.bind{Q:β→aS→Prop}{r:R3 α}{f:α→aS→R3 β}(h:W3 r fun a S=>W3 (f a S) Q):W3 (r.bind f) Q:=by
 obtain⟨a,S1,e1,b,S2,h2,q⟩:=h
 exact⟨b,S2,by rw[e1];exact h2,q⟩
theorem W3.mono{r:R3 α}(h:W3 r Q)(m:∀a S,Q a S→Q' a S):W3 r Q':=let⟨a,S,e,q⟩:=h;⟨a,S,e,m a S q⟩
theorem W3.eq{r:R3 α}{a:α}{S':aS}(e:r= .ok a S')(h:Q a S'):W3 r Q:=⟨a,S',e,h⟩
theorem W3.wh{c:Bool}{r:R3 α}(hc:c=true)(h:W3 r Q):W3 (R3.bZ c r) Q:=by rw[hc];exact h
theorem W3.of{r:R α}{a:α}(e:r= .ok a)(h:Q a S):W3 (R3.of r S) Q:=by rw[e];exact⟨a,S,rfl,h⟩
end
section
variable {S:aS} {δ:DE} {QV:V3→aS→Prop} {QB:Bool→aS→Prop} {QA:List V3→aS→Prop} {QO:Ou→aS→Prop}
theorem dn{f:FD}{d:D}(e:f (down δ)= .ok d)(h:QV (.d d) S):W3 (xP f δ S) QV:=W3.bind (W3.of e (W3.ok h))
theorem t7{f:FD}{d:D}(e:f (bV S δ)= .ok d)(ha:jF d=true)(h:QV (.d d) S):W3 (xT f δ S) QV:=W3.bind (W3.of e (W3.wh ha (W3.ok h)))
theorem EV{f:aw→R Bool}{b:Bool}(e:f (down δ)= .ok b)(h:QB b S):W3 (bP f δ S) QB:=W3.of e h
theorem Aw{f:aw→R Bool}{b:Bool}(e:f (bV S δ)= .ok b)(h:QB b S):W3 (bT f δ S) QB:=W3.of e h
theorem w_var{i:Nat}{v:V3}(e:δ[i]? =some (some v))(h:QV v S):W3 (bL i δ S) QV:=by unfold bL;rw [e];exact W3.ok h
theorem jS{f:aw→R (List D)}{ds:List D}(e:f (down δ)= .ok ds)(h:QV (.loc S.length) (S++[.lst ds])):W3 (lZ f δ S) QV:=W3.bind (W3.of e (W3.ok h))
theorem cU(h:QA [] S):W3 (bW δ S) QA:=W3.ok h
theorem aL{f:FX}{g:FA}(h:W3 (f δ S) fun v S1=>W3 (g δ S1) fun vs S2=>QA (v ::vs) S2):W3 (ay f g δ S) QA:=W3.bind (h.mono fun _ _ h=>W3.bind (h.mono fun _ _ h=>W3.ok h))
theorem rW{g:FA}(h:W3 (g δ S) fun vs S1=>vs.length≤sizeLine∧QV (ku vs) S1):W3 (uq g δ S) QV:=W3.bind (h.mono fun _ _ h=>W3.wh (decide_eq_true h.1) (W3.ok h.2))
theorem Ht{g:FA}(h:W3 (g δ S) fun vs S1=>vs.length≤sizeLine∧QV (ig vs) S1):W3 (FK g δ S) QV:=W3.bind (h.mono fun _ _ h=>W3.wh (decide_eq_true h.1) (W3.ok h.2))
theorem Ak{g:D→D→R D}{fa fb:FX}(h:W3 (fa δ S) fun a S1=>W3 (fb δ S1) fun b S2=>∃x y d,a= .d x∧b= .d y∧g x y= .ok d∧QV (.d d) S2):W3 (x2 g fa fb δ S) QV:=
 W3.bind (h.mono fun _ _ h=>W3.bind (h.mono fun _ _ ⟨_,_,_,e1,e2,e3,q⟩=>by subst e1 e2;exact W3.bind (W3.of e3 (W3.ok q))))
theorem Hq{g:D→D→R D}{fa fb:FX}(h:W3 (fa δ S) fun a S1=>W3 (fb δ S1) fun b S2=>∃x y k,a= .d x∧b= .d y∧g x y= .ok (.bl k)∧QB k S2):W3 (HL g fa fb δ S) QB:=
 W3.bind (Ak (h.mono fun _ _ h=>h.mono fun _ _ ⟨x,y,k,e1,e2,e3,q⟩=>⟨x,y, .bl k,e1,e2,e3,W3.ok q⟩))
theorem yN{fa fb:FX}(h:W3 (fa δ S) fun a S1=>W3 (fb δ S1) fun b S2=>∃x y d,a= .d x∧b= .d y∧ck x y= .ok d∧QV (.d d) S2):W3 (yQ fa fb δ S) QV:=
 W3.bind (h.mono fun _ _ h=>W3.bind (h.mono fun _ _ ⟨_,_,_,e1,e2,e3,q⟩=>by subst e1 e2;exact W3.bind (W3.of e3 (W3.ok q))))
theorem dX{g:List V3→aS→R3 V3}{fs:FA}(h:W3 (fs δ S) fun vs S1=>W3 (g vs S1) QV):W3 (bU g fs δ S) QV:=W3.bind h
theorem yf{g:List D→R D}{fs:FA}(h:W3 (fs δ S) fun vs S1=>∃ds d,vs=ds.map .d∧g ds= .ok d∧QV (.d d) S1):W3 (nR g fs δ S) QV:=
 W3.bind (h.mono fun _ _ ⟨ds,_,e1,e2,q⟩=>by subst e1;rw [mK];exact W3.bind (W3.of e2 (W3.ok q)))
theorem wg{it:FA}{t:FG}{c:FB}{f:FX}{own:List Str}{kp:List Nat}(h:W3 (it δ S) fun vs S1=>vs.length≤sizeLine∧W3 (jG t c f (eB own kp δ) vs S1) fun ys S2=>QV (ig ys) S2):W3 (jO it t c f own kp δ S) QV:=
 W3.bind (h.mono fun _ _ h=>W3.wh (decide_eq_true h.1) (W3.bind (h.2.mono fun _ _ h=>W3.ok h)))
theorem aW{F G:FZ}(h:W3 (F δ S) fun o S1=>∃δ1,o= .nx δ1∧W3 (G δ1 S1) QO):W3 (bz F G δ S) QO:=W3.bind (h.mono fun _ _ ⟨_,e,h⟩=>by subst e;exact h)
theorem FE{F G:FZ}(h:W3 (F δ S) fun o S1=>∃v,o= .rt v∧QO (.rt v) S1):W3 (bz F G δ S) QO:=W3.bind (h.mono fun _ _ ⟨_,e,h⟩=>by subst e;exact W3.ok h)
theorem bA{i:Nat}{f:FX}(hi:i < δ.length)(h:W3 (f δ S) fun v S1=>QO (.nx (δ.set i (some v))) S1):W3 (cA i f δ S) QO:=W3.bind (h.mono fun _ _ h=>W3.wh (decide_eq_true hi) (W3.ok h))
theorem gq{f:FX}(h:W3 (f δ S) fun v S1=>QO (.rt v) S1):W3 (iz f δ S) QO:=W3.bind (h.mono fun _ _ h=>W3.ok h)
theorem sT{c:FB}{F G:FZ}(h:W3 (c δ S) fun b S1=>if b then W3 (F δ S1) QO else W3 (G δ S1) QO):W3 (yF c F G δ S) QO:=W3.bind (h.mono fun b _ h=>by cases b <;> exact h)
theorem ml(h:QO (.nx δ) S):W3 (pj δ S) QO:=W3.ok h
theorem mf{f:aw→R (List D)}{ds:List D}(e:f (down δ)= .ok ds)(h:QA (ds.map .d) S):W3 (iP f δ S) QA:=W3.bind (W3.of e (W3.ok h))
theorem nQ{f:FX}(h:W3 (f δ S) fun v S1=>∃n:Nat,v= .d (.int n)∧n < 1000000∧QA ((b_ 0 n).map .d) S1):W3 (lS f δ S) QA:=W3.bind (h.mono fun _ _ ⟨n,e,hn,q⟩=>by
 subst e
 refine W3.wh (decide_eq_true ⟨by omega,by omega⟩) (W3.ok ?_)
 rw[Int.toNat_natCast];exact q)
theorem tf{f:FX}(h:W3 (f δ S) fun v S1=>∃ds,v= .d (.lst ds)∧QA (ds.map .d) S1):W3 (Au f δ S) QA:=W3.bind (h.mono fun _ _ ⟨n,e,q⟩=>by subst e;exact W3.ok q)
theorem ik{it:FA}{t:FG}{F:FZ}(h:W3 (it δ S) fun vs S1=>W3 (nc t F vs δ S1) QO):W3 (kD it t F δ S) QO:=W3.bind h
theorem jQ{i k:Nat}{f:FX}(hk:δ[i]? =some (some (.loc k)))(h0:∃ds,S[k]? =some (.lst ds))(h:W3 (f δ S) fun v S1=>∃d ds,v= .d d∧S1[k]? =some (.lst ds)∧ds.length < sizeLine∧QO (.nx δ) (S1.set k (.lst (ds++[d])))):W3 (jJ i f δ S) QO:=by
 obtain⟨es,h0⟩:=h0
 unfold jJ
 have e1:gy δ i=some k:=by unfold gy;rw [hk]
 have e2:cK S k=some es:=by unfold cK;simp only[h0]
 rw[e1];show W3 (match cK S k with | none=>_ | some _=>_) _
 rw[e2]
 refine W3.bind (h.mono fun v S1 ⟨d,ds,e,h1,hl,q⟩=>?_)
 subst e
 have e3:cK S1 k=some ds:=by unfold cK;simp only[h1]
 show W3 (match cK S1 k with | some ds=>_ | none=>_) _
 rw[e3]
 exact W3.wh (decide_eq_true hl) (W3.ok q)
theorem AU{fo fi fe:FX}(h:W3 (fe δ S) fun v S1=>W3 (fo δ S1) fun o S2=>W3 (fi δ S2) fun j S3=>∃d k n ds m,v= .d d∧o= .loc k∧j= .d (.int n)∧S3[k]? =some (.lst ds)∧qp ds.length n=some m∧QO (.nx δ) (S3.set k (.lst (ds.set m d)))):W3 (we fo fi fe δ S) QO:=
 W3.bind (h.mono fun _ _ h=>W3.bind (h.mono fun _ _ h=>W3.bind (h.mono fun _ S3 ⟨d,k,n,ds,m,e1,e2,e3,h1,h2,q⟩=>by
  subst e1 e2 e3
  have e3:cK S3 k=some ds:=by unfold cK;simp only[h1]
  show W3 (match cK S3 k with | some ds=>_ | none=>_) _
  rw[e3]
  show W3 (match qp ds.length n with | some m=>_ | none=>_) _
  rw[h2]
  exact W3.ok q)))
theorem p_{t:FG}{body:FZ}:∀(vs:List V3) (n:Nat) (P:Nat→DE→aS→Prop) {δ:DE} {S:aS},P n δ S→
 (∀i v δ S,vs[i]? =some v→P (n+i) δ S→∃δ1,t v δ=some δ1∧W3 (body δ1 S) fun o S1=>∃δ2,o= .nx δ2∧P (n+i+1) δ2 S1)→W3 (nc t body vs δ S) fun o S1=>∃δ2,o= .nx δ2∧P (n+vs.length) δ2 S1
 | [],n,P,δ,S,h0,_=>W3.ok ⟨δ,rfl,h0⟩
 | v ::vs,n,P,δ,S,h0,hs=>by
   obtain⟨δ1,e1,o,S1,e2,δ2,rfl,p2⟩:=hs 0 v δ S rfl h0
   have ih:=p_ vs (n+1) P p2 (fun i v' δ' S' hi hp=>by
    have:=hs (i+1) v' δ' S' (by simpa using hi) (by rw[show n+(i+1)=n+1+i by omega];exact hp)
    rw[show n+(i+1)+1=n+1+i+1 by omega] at this
    exact this)
   rw[show n+1+vs.length=n+(v ::vs).length by rw[List.length_cons];omega] at ih
   unfold nc
   rw[e1]
   refine W3.bind ⟨_,_,e2,?_⟩
   exact ih
theorem cH{t:FG}{body:FZ}{vs:List V3}(P:Nat→DE→aS→Prop){δ:DE}{S:aS}(h0:P 0 δ S)
 (hs:∀i v δ S,vs[i]? =some v→P i δ S→∃δ1,t v δ=some δ1∧W3 (body δ1 S) fun o S1=>∃δ2,o= .nx δ2∧P (i+1) δ2 S1):W3 (nc t body vs δ S) fun o S1=>∃δ2,o= .nx δ2∧P vs.length δ2 S1:=by
 have:=p_ (t:=t) (body:=body) vs 0 P h0 (fun i v δ S hi hp=>by simpa using hs i v δ S hi (by simpa using hp))
 simpa using this
theorem qA{t:FG}{c:FB}{f:FX}{δ:DE}:∀(vs:List V3) (n:Nat) (P:Nat→List V3→aS→Prop) {ys:List V3} {S:aS},P n ys S→
 (∀i v ys S,vs[i]? =some v→P (n+i) ys S→∃δ1,t v δ=some δ1∧W3 (c δ1 S) fun b S1=>if b then W3 (f δ1 S1) fun y S2=>P (n+i+1) (ys++[y]) S2 else P (n+i+1) ys S1)→W3 (jG t c f δ vs S) fun zs S1=>P (n+vs.length) (ys++zs) S1
 | [],n,P,ys,S,h0,_=>W3.ok (by rw[List.append_nil];exact h0)
 | v ::vs,n,P,ys,S,h0,hs=>by
   obtain⟨δ1,e1,b,S1,e2,h2⟩:=hs 0 v ys S rfl h0
   have ih:∀{ys' S'},P (n+1) ys' S'→W3 (jG t c f δ vs S') fun zs S1=>P (n+(v ::vs).length) (ys'++zs) S1:=fun {ys' S'} p=>by
    have:=qA (t:=t) (c:=c) (f:=f) (δ:=δ) vs (n+1) P p (fun i v' ys' S' hi hp=>by
     have:=hs (i+1) v' ys' S' (by simpa using hi) (by rw[show n+(i+1)=n+1+i by omega];exact hp)
     rw[show n+(i+1)+1=n+1+i+1 by omega] at this
     exact this)
    rw[show n+1+vs.length=n+(v ::vs).length by rw[List.length_cons];omega] at this
    exact this
   unfold jG
   rw[e1]
   refine W3.bind ⟨b,S1,e2,?_⟩
   cases b with
   | true=>
     rw[if_pos rfl] at h2 ⊢
     exact W3.bind (h2.mono fun y S2 p=>W3.bind ((ih p).mono fun zs S3 q=>W3.ok (by rw[List.append_assoc] at q;exact q)))
   | false=>rw [if_neg (by decide)] at h2 ⊢;exact ih h2
theorem lu{t:FG}{c:FB}{f:FX}{δ:DE}{vs:List V3}(P:Nat→List V3→aS→Prop){S:aS}(h0:P 0 [] S)
 (hs:∀i v ys S,vs[i]? =some v→P i ys S→∃δ1,t v δ=some δ1∧W3 (c δ1 S) fun b S1=>if b then W3 (f δ1 S1) fun y S2=>P (i+1) (ys++[y]) S2 else P (i+1) ys S1):W3 (jG t c f δ vs S) fun zs S1=>P vs.length zs S1:=by
 have:=qA (t:=t) (c:=c) (f:=f) (δ:=δ) vs 0 P h0 (fun i v ys S hi hp=>by simpa using hs i v ys S hi (by simpa using hp))
 simpa using this
theorem rR{QB:Bool→aS→Prop}(h:QB true S):W3 (uW δ S) QB:=W3.ok h
theorem uf{N:List Str}{F:FZ}{vs:List V3}{δ:DE}(e:bX N vs=δ)(h:W3 (F δ S) fun o S1=>∃v,o= .rt v∧QV v S1):W3 (mz N F vs S) QV:=by
 subst e
 exact W3.bind (h.mono fun _ _ ⟨_,e,q⟩=>by subst e;exact W3.ok q)
noncomputable def Kz(S:aS):Prop:=∀o∈S,∃ds,o=SO.lst ds
end
end L3
namespace L3
open PySem PySem.Spec PyProof.Rows L2
section
variable {S:aS} {δ:DE} {QV:V3→aS→Prop}
theorem pL{it:FA}{t:FG}{c:FB}{f:FX}{own:List Str}{kp:List Nat}(P:Nat→List D→aS→Prop)(h:W3 (it δ S) fun vs S1=>vs.length≤sizeLine∧P 0 [] S1∧
 (∀i v ds S2,vs[i]? =some v→P i ds S2→∃δ1,t v (eB own kp δ)=some δ1∧W3 (c δ1 S2) fun b S3=>if b then W3 (f δ1 S3) fun y S4=>∃d,y= .d d∧P (i+1) (ds++[d]) S4 else P (i+1) ds S3)∧
 ∀ds S2,P vs.length ds S2→QV (.d (.lst ds)) S2):W3 (jO it t c f own kp δ S) QV:=by
 refine wg (h.mono fun vs S1 ⟨hl,h0,hs,hq⟩=>⟨hl,?_⟩)
 refine(lu (fun i ys S=>∃ds,ys=ds.map V3.d∧P i ds S) ⟨[],rfl,h0⟩ ?_).mono fun zs S2 ⟨ds,e,p⟩=>?_
 ·rintro i v ys S2 hv ⟨ds,rfl,p⟩
  obtain⟨δ1,e1,h1⟩:=hs i v ds S2 hv p
  refine⟨δ1,e1,h1.mono fun b S3 h3=>?_⟩
  cases b with
  | true=>
    rw[if_pos rfl] at h3 ⊢
    exact h3.mono fun y S4 ⟨d,e,p⟩=>by subst e;exact⟨ds++[d],by simp,p⟩
  | false=>rw [if_neg (by decide)] at h3 ⊢;exact⟨ds,rfl,h3⟩
 ·subst e
  unfold ig
  rw[mK]
  exact hq ds S2 p
structure jm (n:Nat) (d:D):Prop where
 pl:fw d=true
 ly:(toPy d).canLay0=true
 dp:(toPy d).depth≤n
theorem jm.int(i:Int):jm 0 (.int i):=⟨by unfold fw;rfl,by unfold toPy PyData.canLay0;rfl,by unfold toPy PyData.depth;omega⟩
theorem jm.bl(b:Bool):jm 0 (.bl b):=⟨by unfold fw;rfl,by unfold toPy PyData.canLay0;rfl,by unfold toPy PyData.depth;omega⟩
theorem jm.cI:jm 0 .cI:=⟨by unfold fw;rfl,by unfold toPy PyData.canLay0;rfl,by unfold toPy PyData.depth;omega⟩
theorem jm.str{s:Str}(h:(PyData.str s).canLay0=true):jm 0 (.str s):=⟨by unfold fw;rfl,by unfold toPy;exact h,by unfold toPy PyData.depth;omega⟩
theorem jm.mono{n m:Nat}{d:D}(h:jm n d)(hm:n≤m):jm m d:=⟨h.pl,h.ly,Nat.le_trans h.dp hm⟩
theorem jm.all{n:Nat}:∀{ds:List D},(∀d∈ds,jm n d)→jg ds=true∧PyData.canLayAll0 (kC ds)=true∧PyData.depthAll (kC ds)≤n
 | [],_=>⟨by unfold jg;rfl,by unfold kC PyData.canLayAll0;rfl,by unfold kC PyData.depthAll;omega⟩
 | d ::ds,h=>by
   obtain⟨h1,h2,h3⟩:=jm.all (ds:=ds) fun x hx=>h x (List.mem_cons_of_mem _ hx)
   have f:=h d List.mem_cons_self
   refine⟨by unfold jg;rw [f.pl,h1];rfl,by unfold kC PyData.canLayAll0;rw [f.ly,h2];rfl,?_⟩
   unfold kC PyData.depthAll
   have:=f.dp
   omega
theorem jm.lst{n:Nat}{ds:List D}(h:∀d∈ds,jm n d):jm (n+1) (.lst ds):=by
 obtain⟨h1,h2,h3⟩:=jm.all h
 exact⟨by unfold fw;exact h1,by unfold toPy PyData.canLay0;exact h2,by unfold toPy PyData.depth;omega⟩
theorem jm.tup{n:Nat}{ds:List D}(h:∀d∈ds,jm n d):jm (n+1) (.tup ds):=by
 obtain⟨h1,h2,h3⟩:=jm.all h
 exact⟨by unfold fw;exact h1,by unfold toPy PyData.canLay0;exact h2,by unfold toPy PyData.depth;omega⟩
theorem jm.sh{n:Nat}{d:D}(h:jm n d)(hn:n≤64):SeqAt.shaped (toPy d)=true:=by
 unfold SeqAt.shaped
 rw[h.ly,decide_eq_true (Nat.le_trans h.dp hn)]
 rfl
theorem BV{d e:List D}:EG (.lst d) (.lst e)=R.bZ (fw (.lst d) && fw (.lst e) && SeqAt.shaped (toPy (.lst d)) && SeqAt.shaped (toPy (.lst e))) (.ok (PyData.eqv (toPy (.lst d)) (toPy (.lst e)))):=rfl
end
end L3
namespace L3
open PySem PySem.Spec PyProof.Rows L2
theorem Gv{α:Type}(ds:List α){n:Int}(h:0≤n):L2.cutD ds none (some n)=ds.take n.toNat:=by
 obtain⟨k,rfl⟩:=Int.eq_ofNat_of_zero_le h
 unfold L2.cutD
 rw[HT.vx,HT.pG,List.drop_zero,Nat.sub_zero,Int.toNat_natCast]
 by_cases hk:k≤ds.length
 ·rw[Nat.min_eq_left hk]
 ·rw[Nat.min_eq_right (by omega),List.take_of_length_le (Nat.le_refl _),List.take_of_length_le (by omega)]
theorem vz{α:Type}(ds:List α){n:Int}(h:0≤n):L2.cutD ds (some n) none=ds.drop n.toNat:=by
 obtain⟨k,rfl⟩:=Int.eq_ofNat_of_zero_le h
 unfold L2.cutD
 rw[HT.vx,HT.pG,Int.toNat_natCast,List.take_of_length_le (by rw[List.length_drop];omega)]
 by_cases hk:k≤ds.length
 ·rw[Nat.min_eq_left hk]
 ·rw[Nat.min_eq_right (by omega),List.drop_of_length_le (Nat.le_refl _),List.drop_of_length_le (by omega)]
end L3
end
section
set_option maxRecDepth 100000
set_option maxHeartbeats 4000000
namespace L2
open PySem PySem.Spec PyProof.Rows
section
variable {X:Cx}
noncomputable def zZ:D→Bool | .cI=>true | _=>false
noncomputable def IJ(d e:D):R D:=match e with | .cI=> .ok (.bl (zZ d)) | _=> .no
noncomputable def Ly(d e:D):R D:=match e with | .cI=> .ok (.bl (!zZ d)) | _=> .no
theorem DA{K:PySem.W.Frag}{B:List Addr}{H:Hp}{d:D}{x:V}(r:Rep K B H d x):decide (x= .cI)=zZ d:=by
 cases d with
 | cI=>rw [Rep.cI.mp r];rfl
 | bl b=>rw [Rep.bl.mp r];rfl
 | int b=>rw [Rep.int.mp r];rfl
 | str b=>rw [Rep.str.mp r];rfl
 | lst ds=>obtain⟨a,xs,rfl,_⟩:=Rep.lst.mp r;rfl
 | tup ds=>obtain⟨a,xs,rfl,_⟩:=Rep.tup.mp r;rfl
 | dct ks ds=>unfold Rep at r;obtain⟨a,xs,rfl,_⟩:=r;rfl
theorem Im:j0 X (compareOp .Is) IJ:=j0.of F6 fun B H da db d x y Q _ ra rb hg q=>by
 unfold IJ at hg
 split at hg
 ·cases hg
  exact⟨Rep.cI.mp rb,by rw[DA ra];exact q _ H (aY.refl H) (Rep.bl.mpr rfl)⟩
 ·cases hg
theorem yV:jU X (.type "int") (fun xs H Q=>∃x n,xs=[.str x]∧PySem.intText? x=some n∧x.length≤640∧Q (.int n) H):=by
 intro pins s σ H xs us Q I r h
 obtain⟨x,n,rfl,h1,h2,q⟩:=h
 obtain⟨u,rfl,ru⟩:=vals1 r
 obtain⟨t,rfl⟩:=ru
 exact PySem.W.KIN.call_text h1 h2 ⟨.int n,H,I.tok _,⟨_,rfl⟩,q⟩
noncomputable def BF:List D→R D
 | [.str x]=>R.bZ (decide (x.length≤640)) (match PySem.intText? x with | some n=> .ok (.int n) | none=> .no)
 | _=> .no
theorem GF:cT X (.type "int") BF:=cT.of yV fun B H ds d xs Q _ rs hg q=>by
 unfold BF at hg
 split at hg
 ·obtain⟨h1,h2⟩:=R.bo hg
  split at h2
  ·rename_i e
   cases h2
   obtain⟨x,rfl,r⟩:=rs.one
   exact⟨_,_,by rw[Rep.str.mp r],e,of_decide_eq_true h1,q _ H (aY.refl H) (Rep.int.mpr rfl)⟩
  ·cases h2
 ·cases hg
noncomputable def oI(ds:List D):R D:=match ds with | [.str _]=>BF ds | _=>cInt ds
theorem qB:cT X (.type "int") oI:=cT.or GF HU fun a d h=>by
 unfold oI at h
 split at h
 ·exact .inl h
 ·exact .inr h
noncomputable def GP(f:FD):FD:=fun δ=>(f δ).bind fun d=>match d with | .int i=> .ok (.int (-i)) | _=> .no
theorem yi{a:Expr}{f:FD}{pos:Pos}(h:QD X a f):QD X (.UnaryOp .USub a pos) (GP f):=⟨(Iq GQ h.1).imp fun σ H Q ⟨Z,B,δ,d,E,hf,q⟩=>by
 obtain⟨d1,h1,h2⟩:=R.ak hf
 split at h2
 ·cases h2
  exact⟨Z,B,δ,_,E,h1,fun v H1 s1 r1=>⟨_,Rep.int.mp r1,q _ H1 s1 (Rep.int.mpr rfl)⟩⟩
 ·cases h2⟩
noncomputable def xY(d:D)(ds:List D):R D:=match d,ds with
 | .str x,[.str y]=> .ok (.int (Txt.find x y))
 | _,_=> .no
theorem m_find:IK X "str.find" xY:=by
 intro pins s σ H B da d ds x xs v us I hb rx rxs ra rs hg
 unfold xY at hg
 split at hg
 ·cases hg
  rw[Rep.str.mp ra] at rx
  obtain⟨t,rfl⟩:=rx
  obtain⟨y,rfl,r⟩:=rs.one
  rw[Rep.str.mp r] at rxs
  obtain⟨u,rfl,ru⟩:=vals1 rxs
  obtain⟨t2,rfl⟩:=ru
  exact PySem.SC.find ⟨.int _,H,I.tok _,⟨_,rfl⟩,aY.refl H,Rep.int.mpr rfl⟩
 ·cases hg
theorem AH{o e:Expr}{f:FD}{fs:aw→R (List D)}{apos cpos:Pos}(ho:QD X o f)(ha:Dl X [e] fs)
 (hbase:attributeBase o "find" X.env (eval o X.env)=eval o X.env:=by rfl)
 (hfew:((backTo cpos (starEach [e] X.env)).all (fun x=>!x.1) && (backToKw cpos (keywordEach [] X.env)).all (fun x=>x.1.isSome)
   && decide (([e]:List Expr).length+([]:List Keyword).length+(if([]:List Keyword).isEmpty then 0 else 1) < 30))=true:=by rfl)
 (hline:(apos.endLine==cpos.line)=true:=by rfl) (hs:starEach [e] X.env=(false,eval e X.env) ::starEach [] X.env:=by rfl) :
 QD X (.Call (.Attribute o "find" apos) [e] [] cpos) (yJ "str" xY f fs):=⟨HZ F.plainAttrs_str F.slot_str_find F.type_str_find m_find ho.1 ha.1 (.inl rfl) hbase hfew hline hs⟩
noncomputable def Lq(kvs:List (Str × Str)):D:= .dct (kvs.map fun p=>Sum.inr p.1) (kvs.map fun p=> .str p.2)
noncomputable def L6(kvs:List (Str × Str)):List (Key × V):=kvs.map fun p=>((Sum.inr p.1:Key),V.str p.2)
noncomputable def Le(d k:D):R D:=match d,k with
 | .dct ks ds, .str x=>(match (ks.zip ds).find? fun p=>decide (p.1=Sum.inr x) with | some p=> .ok p.2 | none=> .no)
 | _,_=> .no
end
theorem HD{P:Program}{w:World}{K:PySem.W.Frag}{mg:Str→Option Value}{base:Heap}{k n:Nat}{f:Addr}{fd:FuncData}{ps:List Str}:hJ P w K mg base rh k f fd ps (yD K n fun _=> .no):=
 ⟨fun vs H Q E h=>(by obtain⟨_,_,_,_,_,_,h,_⟩:=h;cases h),fun A outer s H args us vs Q E _ _ _ _ h=>(by obtain⟨_,_,_,_,_,_,h,_⟩:=h;cases h)⟩
end L2
namespace L3
open PySem PySem.Spec PyProof.Rows L2
section
variable {X:Cx} {cl:Nat→Addr}
noncomputable def Jq(f:FX):FB:=fun δ S=>(f δ S).bind fun v S=>match v with | .d (.bl b)=> .ok b S | _=> .no
theorem FF{f:FX}{δ:DE}{S S':aS}{b:Bool}(h:Jq f δ S= .ok b S'):f δ S= .ok (.d (.bl b)) S':=by
 obtain⟨v,S1,h1,h2⟩:=R3.ak h
 split at h2
 ·cases h2;exact h1
 ·cases h2
noncomputable def Gq(f g:FX):FX:=fun δ S=>(Jq f δ S).bind fun b S=>if b then g δ S else .ok (.d (.bl false)) S
noncomputable def Ma(f g:FX):FX:=fun δ S=>(Jq f δ S).bind fun b S=>if b then .ok (.d (.bl true)) S else g δ S
theorem GV{a:Expr}{op}{f:FX}{pos:Pos}(h:PX X cl a f):PX X cl (.BoolOp op [a] pos) f:=⟨z7 h.1⟩
theorem GN{a b:Expr}{rest:List Expr}{f g:FX}{pos:Pos}(ha:PX X cl a f)(hb:PX X cl (.BoolOp .And (b ::rest) pos) g):PX X cl (.BoolOp .And (a ::b ::rest) pos) (Gq f g):=⟨(AA ha.1 hb.1).imp fun σ H Q ⟨ρ,S,δ,k,S',E,hf,q⟩=>by
 obtain⟨c,S1,h1,h2⟩:=R3.ak hf
 refine⟨ρ,S,δ, .d (.bl c),S1,E,FF h1,fun v ρ1 H1 p1 w1 r1=>⟨c,by unfold bp Rep at r1;exact r1,?_⟩⟩
 cases c with
 | true=>rw [if_pos rfl] at h2 ⊢;exact⟨ρ1,S1,δ,k,S',E.to p1 w1,h2,fun v ρ2 H' p2 w2 r2=>q v ρ2 H' (p1.trans p2) w2 r2⟩
 | false=>rw [if_neg (by decide)] at h2 ⊢;cases h2;exact q _ ρ1 H1 p1 w1 (by unfold bp Rep;rfl)⟩
theorem w_and{f g:FX}{δ:DE}{S:aS}{Q:V3→aS→Prop}(h:W3 (f δ S) fun v S1=>v= .d (.bl true)∧W3 (g δ S1) Q):W3 (Gq f g δ S) Q:=W3.bind (W3.bind (h.mono fun v S1 ⟨e,h2⟩=>by subst e;exact W3.ok (by rw[if_pos rfl];exact h2)))
noncomputable def AO(i:Nat)(F:FZ):FZ:=fun δ S=>match gy δ i with
 | some k=>(match cK S k with | some ds=>F (δ.set i (some (.d (.lst ds)))) (S.set k .iA) | none=> .no)
 | none=> .no
theorem C4(i:Nat){sts:List Stmt}{F:FZ}(h:zJ X cl sts F):zJ X cl sts (AO i F):=⟨h.1.imp fun D σ H ⟨ρ,S,δ,o,S',E,hf,q⟩=>by
 unfold AO at hf
 split at hf
 ·rename_i k hk
  split at hf
  ·rename_i ds hds
   obtain⟨v,v1,v2⟩:=E.val i _ (md hk)
   unfold bp at v2
   obtain⟨a,a1,rfl⟩:=v2
   obtain⟨w,p,r⟩:=E.sw.iA a1 (dI hds)
   have E1:eV X.K cl ⟨ρ.r,ρ.z,a ::ρ.f⟩ H (S.set k .iA) σ (δ.set i (some (.d (.lst ds)))):=⟨by rw[List.length_set];exact E.len,w,fun j d e=>by
    by_cases h:i=j
    ·subst h
     rw[List.getElem?_set_self (by obtain⟨h1,_⟩:=List.getElem?_eq_some_iff.mp (md hk);exact h1)] at e
     cases e
     exact⟨_,v1,by unfold bp;exact r⟩
    ·rw[List.getElem?_set_ne h] at e
     obtain⟨u,u1,u2⟩:=E.val j d e
     exact⟨u,u1,u2.pre p⟩⟩
   exact⟨_,_,_,o,S',E1,hf,q.pre p⟩
  ·cases hf
 ·cases hf⟩
theorem IC{i k:Nat}{ds:List D}{F:FZ}{δ:DE}{S:aS}{QO:Ou→aS→Prop}(hk:δ[i]? =some (some (.loc k)))(hS:S[k]? =some (.lst ds))(h:W3 (F (δ.set i (some (.d (.lst ds)))) (S.set k .iA)) QO):W3 (AO i F δ S) QO:=by
 unfold AO
 have e1:gy δ i=some k:=by unfold gy;rw [hk]
 have e2:cK S k=some ds:=by unfold cK;simp only[hS]
 simp only[e1,e2]
 exact h
end
noncomputable def Flat(S:aS):Prop:=∀o∈S,∀n,o5 n o=true
theorem Flat.all{S:aS}(h:Flat S)(n:Nat):(S.take n).all (o5 n)=true:=List.all_eq_true.mpr fun o ho=>h o (List.mem_of_mem_take ho) n
theorem Flat.set{S:aS}(h:Flat S)(k:Nat){x:SO}(hx:∀n,o5 n x=true):Flat (S.set k x):=fun o ho=>by
 rcases List.mem_or_eq_of_mem_set ho with z | z
 ·exact h o z
 ·rw[z];exact hx
theorem Flat.push{S:aS}(h:Flat S){x:SO}(hx:∀n,o5 n x=true):Flat (S++[x]):=fun o ho=>by
 rcases List.mem_append.mp ho with z | z
 ·exact h o z
 ·rw[List.mem_singleton.mp z];exact hx
theorem Flat.take{S:aS}(h:Flat S)(n:Nat):Flat (S.take n):=fun o ho=>h o (List.mem_of_mem_take ho)
theorem Flat.nil:Flat []:=fun o ho=>by cases ho
theorem qG{N:List Str}{F:FZ}{vs:List V3}{S:aS}{QV:V3→aS→Prop}(h:W3 (mz N F vs S) fun v S1=>Flat S1∧fL S.length v=true∧∃d,res S1 v=some d∧QV (.d d) (S1.take S.length)):W3 (nA N F vs S) QV:=
 W3.bind (h.mono fun v S1 ⟨hl,hg,d,e,q⟩=>by
  rw[e]
  exact W3.wh (by rw[hl.all,hg];rfl) (W3.ok q))
end L3
end
section
set_option maxRecDepth 100000
set_option maxHeartbeats 4000000
namespace PySem
open Sem (wp)
open AutoSeq1 (wpAny_loadPart')
section
variable {prog:Program} {w:World} {A:Around} {E:Value→Shared→Prop} {s:Shared}
end
end PySem
namespace L2
open PySem PySem.Spec PyProof.Rows
section
variable {X:Cx}
noncomputable def IQ(f:FD):FD:=fun δ=>(f δ).bind fun d=>match d with
 | .int j=>R.bZ (decide (-(2 ^ 62)≤j∧j < 16777216)) (.ok (.tup (b_ 0 j.toNat)))
 | _=> .no
end
end L2
end
section
set_option maxRecDepth 100000
set_option maxHeartbeats 4000000
namespace PySem
open Sem (wp)
open AutoSeq1 (wpAny_loadPart')
section
variable {prog:Program} {w:World} {A:Around} {E:Value→Shared→Prop} {s:Shared}
theorem oT{it l:Addr}{i:Nat}{items:Array Value}{x:Value}{Q:Value→Shared→Prop}(hit:s.heap.IsTupleIter it l i)(hl:s.heap.IsTuple l items)(hx:items[i]? =some x)
 (hQ:∀h',h'.IsTupleIter it l (i+1)→Heap.SameBut it s.heap h'→Q x {s with heap:=h'}):wpAny (model prog w) A (Builtin.SmallTypes.nextOf (.ref it)) Q E s:=by
 obtain⟨o,ho,hc,hd⟩:=id hit;obtain⟨ol,hol,_,nl,hdl⟩:=hl
 unfold Builtin.SmallTypes.nextOf
 refine wpAny_bind (wpAny_callSpecial?_slot (name:=Str.ofString "__next__") hit.typeIs F.slot_tuple_iterator_next (wpAny_call_entry F.slot_tuple_iterator_next hit.typeIs F.entry_tuple_iterator_next ?_ (F.args_tuple_iterator_next_1 _)))
 show wpAny _ _ (field (.ref it) 0 >>=_) _ _ s;refine wpAny_bind (wpAny_field ho hd (x:= .ref l) rfl ?_)
 show wpAny _ _ (if(Value.ref l==Value.none)=true then _ else _) _ _ s;rw [if_neg (show ¬((Value.ref l==Value.none)=true) from Bool.false_ne_true)]
 show wpAny _ _ (field (.ref it) 1 >>=_) _ _ s;refine wpAny_bind (wpAny_field ho hd (x:= .int i 0) rfl ?_)
 show wpAny _ _ (seqItems? (.ref l) >>=_) _ _ s;refine wpAny_bind (wpAny_seqItems hol hdl ?_)
 simp only[Int.toNat_natCast,hx]
 refine wpAny_bind (wpAny_setField ho hd (by simp) (wpAny_pure ⟨x,rfl,wpAny_pure (hQ _ ⟨_,Heap.get?_update_self _ ho (Obj.isFreed_of_fields (Obj.data_mapFields hd _)),(Obj.cls_mapFields ..).trans hc,by rw[Obj.data_mapFields hd];simp [rawInt]⟩ (Heap.SameBut.update ..))⟩))
theorem lp{it l:Addr}{i:Nat}{items:Array Value}{Q:Value→Shared→Prop}(hh:A.handled=none)(hit:s.heap.IsTupleIter it l i)(hl:s.heap.IsTuple l items)(hx:items[i]? =none)
 (hE:∀h' e,Heap.ExtBut it s.heap h'→(∃o,h'.get? e=some o∧o.cls= .type "StopIteration")→E (.ref e) {s with heap:=h'}):wpAny (model prog w) A (Builtin.SmallTypes.nextOf (.ref it)) Q E s:=by
 obtain⟨o,ho,hc,hd⟩:=id hit;obtain⟨ol,hol,_,nl,hdl⟩:=hl
 unfold Builtin.SmallTypes.nextOf
 refine wpAny_bind (wpAny_callSpecial?_slot (name:=Str.ofString "__next__") hit.typeIs F.slot_tuple_iterator_next (wpAny_call_entry F.slot_tuple_iterator_next hit.typeIs F.entry_tuple_iterator_next ?_ (F.args_tuple_iterator_next_1 _)))
 show wpAny _ _ (field (.ref it) 0 >>=_) _ _ s;refine wpAny_bind (wpAny_field ho hd (x:= .ref l) rfl ?_)
 show wpAny _ _ (if(Value.ref l==Value.none)=true then _ else _) _ _ s;rw [if_neg (show ¬((Value.ref l==Value.none)=true) from Bool.false_ne_true)]
 show wpAny _ _ (field (.ref it) 1 >>=_) _ _ s;refine wpAny_bind (wpAny_field ho hd (x:= .int i 0) rfl ?_)
 show wpAny _ _ (seqItems? (.ref l) >>=_) _ _ s;refine wpAny_bind (wpAny_seqItems hol hdl ?_)
 simp only[Int.toNat_natCast,hx]
 refine wpAny_bind (wpAny_rule (wpAny_bind (wpAny_setField ho hd (by simp) ?_)))
 show wpAny _ _ (newExc (.type "StopIteration") [] >>=_) _ _ _;refine wpAny_bind ?_;simp only[newExc,newTuple]
 refine wpAny_bind (wpAny_newObj_type ?_ (by size_fits))
 refine wpAny_bind (m:=firstArgMember _ _) (wpAny_of_eq (a:=Value.none) (by first | rfl | (simp only[firstArgMember];rfl)) ?_);refine wpAny_newObj_type ?_ (by size_fits)
 simp only[raiseNew];refine wpAny_bind (wpAny_handled ?_)
 first | rw[show A.in1.handled=none from hh] | rw[hh]
 exact wpAny_bind (wpAny_pure (wpAny_throw (hE _ _ (((Heap.SameBut.update ..).extBut.push _).push _) ⟨_,Heap.get?_push_size _ rfl,rfl⟩)))
end
theorem zh{prog:Program}{w:World}{A:Around}(hh:A.handled=none)(it l:Addr)(hne:l≠it)(items:Array Value) :
 Draws prog w A it [it,l] items.size (fun i v=>items[i]? =some v) (fun i h=>h.IsTupleIter it l i∧h.IsTuple l items) where
 live:=fun _ _ st=>let⟨o,ho,_⟩:=st.1;⟨o,ho⟩
 frame:=fun _ _ _ st hk=>⟨st.1.at fun o e=>hk it (by simp) o e,Heap.IsTuple.at st.2 fun o e=>hk l (by simp) o e⟩
 item:=fun i s Q E hi st hQ=>oT st.1 st.2 (x:=items[i]) (by simp [hi]) fun h' hit' hs'=>hQ _ h' s.toks (by simp [hi]) ⟨hit',st.2.extBut hs'.extBut hne⟩ hs'
 done:=fun s Q E st hE=>lp hh st.1 st.2 (by simp) hE
theorem oZ(l:Addr)(items:Array Value)(o:Obj)(n:Nat)(hc:o.cls= .type "tuple")(hd:o.data= .seq items n) :
 Meets (Builtin.«enumerate.__new__» ⟨[.type "enumerate", .ref l],[]⟩) (fun _ R s=>s.heap.get? l=some o∧
  R (.ok (.ret (.ref (s.heap.push {cls:= .type "tuple_iterator",data:= .fields #[.ref l, .int 0 0]}).objs.size)))
   {s with heap:=(s.heap.push {cls:= .type "tuple_iterator",data:= .fields #[.ref l, .int 0 0]}).push {cls:= .type "enumerate",data:= .fields #[.none, .bool false, .ref s.heap.objs.size,rawInt 0, .none, .none]}}):=
 .of_wp fun prog w A R s h=>by
  obtain⟨hp,g,d,tk,os⟩:=s;obtain⟨hl,h⟩:=h
  have hsub:=sub_enumerate
  have hL:Heap.IsTuple (Shared.heap ⟨hp,g,d,tk,os⟩) l items:=⟨_,hl,hc,n,hd⟩
  wp_walk using wpAny_loadPart' hl
  refine wpAny_stack_any fun st=>wpAny_pure ?_
  split
  ·rename_i c _ _ _ _ _
   cases(c==Value.type "enumerate") <;> (wp_walk using wpAny_loadPart' hl,wpAny_pyIter_tuple hL;exact⟨_,rfl,h⟩)
  ·wp_walk using wpAny_loadPart' hl,wpAny_pyIter_tuple hL
   exact⟨_,rfl,h⟩
theorem wM{prog:Program}{w:World}{A:Around}{E:Value→Shared→Prop}{s:Shared}{l:Addr}{items:Array Value}{Q:Value→Shared→Prop}(hL:s.heap.IsTuple l items)
 (h:∀h':Heap,IsEnum h' (s.heap.objs.size+1) s.heap.objs.size 0 .none→h'.IsTupleIter s.heap.objs.size l 0→(∀b o,s.heap.get? b=some o→h'.get? b=some o)→Q (.ref (s.heap.objs.size+1)) {s with heap:=h'}) :
 wpAny (model prog w) A (call (.type "enumerate") [.ref l]) Q E s:=by
 obtain⟨o,hl,hc,n,hd⟩:=hL
 refine callType_new F.called_enumerate (by decide) (F.typeCall_enumerate_1 _) (F.newCall_enumerate_1 _) (fun obj=>F.args_object_init_2 obj _) F.entry_enumerate_new (oZ l items o n hc hd) ⟨hl,?_⟩
 have hz:(s.heap.push {cls:= .type "tuple_iterator",data:= .fields #[.ref l, .int 0 0]}).objs.size=s.heap.objs.size+1:=Heap.size_push ..
 show _∧_;rw [hz]
 have he:IsEnum ((s.heap.push {cls:= .type "tuple_iterator",data:= .fields #[.ref l, .int 0 0]}).push {cls:= .type "enumerate",data:= .fields #[.none, .bool false, .ref s.heap.objs.size,rawInt 0, .none, .none]}) (s.heap.objs.size+1) s.heap.objs.size 0 .none:=by
  have:=Heap.get?_push_size (s.heap.push {cls:= .type "tuple_iterator",data:= .fields #[.ref l, .int 0 0]}) (o:={cls:= .type "enumerate",data:= .fields #[.none, .bool false, .ref s.heap.objs.size,rawInt 0, .none, .none]}) rfl
  rw[hz] at this;exact this
 exact⟨⟨_,he,rfl⟩,h _ he ⟨_,Heap.get?_push_of_some _ (Heap.get?_push_size _ rfl),rfl,rfl⟩ fun b o x=>Heap.get?_push_of_some _ (Heap.get?_push_of_some _ x)⟩
end PySem
namespace L2
open PySem PySem.Spec PyProof.Rows
noncomputable def JE(K:PySem.W.Frag)(a:Addr):It:=
 ⟨fun i H=>∃xs x,oJ K H a xs∧xs[i]? =some x,fun i H v H'=>∃p x,H p=none∧v= .ref p∧(∀xs,oJ K H a xs→xs[i]? =some x)∧H'=upd H p (.tup [.int i,x]),fun i H=>∃xs,oJ K H a xs∧xs.length≤i⟩
theorem wq{P:Program}{w:World}{K:PySem.W.Frag}{elts:List Expr}{k:Nat}{pos:Pos}(a e it:Addr)(hei:e≠it):Turn P w K (.Tuple elts k pos) (JE K a) [e,it] e (fun i h=>(∃old,IsEnum h e it ((i:Nat):Int) old)∧h.IsTupleIter it a i) where
 mem:=by simp
 obj:=fun i h st b hb=>by
  obtain⟨⟨old,he⟩,o,ho,c,d⟩:=st
  rcases List.mem_cons.mp hb with rfl | hb
  ·exact⟨_,he,fun v z=>by cases z⟩
  ·have e:b=it:=by simpa using hb
   subst e
   exact⟨o,ho,fun v z=>by rw[d] at z;cases z⟩
 keep:=fun i h h' st k=>by
  obtain⟨⟨old,he⟩,hi⟩:=st
  exact⟨⟨old,k e (by simp) _ he⟩,hi.at fun o x=>k it (by simp) o x⟩
 item:=by
  intro X hP hw hK hc i pins s σ H E I hf st hg
  subst hP hw hK
  obtain⟨xs,x,hq,hx⟩:=hg
  obtain⟨its,rv,p,hz⟩:=I.tuple hq
  have p':s.heap.IsTuple a its.toArray:=p
  obtain⟨u,hu,ru⟩:=rv.get hx
  obtain⟨⟨old,he⟩,hit⟩:=st
  obtain⟨f0,f1,f2,f3,f4,f5⟩:=hf e (by simp)
  obtain⟨g0,g1,g2,g3,g4,g5⟩:=hf it (by simp)
  have ha_it:a≠it:=fun z=>by
   obtain⟨o1,h1,c1,_⟩:=p'
   obtain⟨o2,h2,c2,_⟩:=hit
   rw[z,h2] at h1;cases h1
   rw[c2] at c1;exact absurd c1 (by decide)
  have ha_e:e ∉ [it,a]:=fun z=>by
   rcases List.mem_cons.mp z with q | q
   ·exact hei q
   ·have q:e=a:=by simpa using q
    obtain⟨o1,h1,c1,_⟩:=p'
    rw[←q,he] at h1;cases h1
    exact absurd (show Value.type "enumerate"=Value.type "tuple" from c1) (by decide)
  refine wpAny_pyNext_enum_itemD (zh (A:=X.A.in1) (I.ok.hd hc) it a ha_it its.toArray) he ⟨hit,p'⟩ (by have:=(List.getElem?_eq_some_iff.mp hu).1;simpa using this) hei ha_e fun u2 h₁ tk hu2 heo st₁ ht₁ hz₁ hk₁=>⟨_,rfl,?_⟩
  obtain rfl:u2=u:=by
   have h1:its[i]? =some u2:=by simpa using hu2
   rw[hu] at h1;cases h1;rfl
  obtain⟨hit₁,_⟩:=st₁
  refine wpAny_letOwnedTupleGo_enum heo fun h₂ he₂ hs₂=>?_
  replace hs₂:Heap.SameBut e h₁ h₂:=hs₂
  have hel:e < s.heap.objs.size:=Heap.lt_size he
  have ht₂:h₂.get? s.heap.objs.size=some {cls:= .type "tuple",data:= .seq #[.int i tk,u2]}:=(hs₂.2 _ (Nat.ne_of_gt hel)).trans ht₁
  have kk:∀b o,b≠e→b≠it→s.heap.get? b=some o→h₂.get? b=some o:=fun b o h1 h2 q=>(hs₂.2 b h1).trans (hk₁ b o h1 h2 q)
  have hn:H s.heap.objs.size=none:=I.fresh
  have sm:aY H (upd H s.heap.objs.size (.tup [.int i,x])):=bh hn
  have nit:∀b o,H b=some o→b≠e∧b≠it:=fun b o q=>⟨fun z=>(by rw[z,f0] at q;cases q),fun z=>(by rw[z,g0] at q;cases q)⟩
  have hok:mq X.prog X.w (upd H s.heap.objs.size (.tup [.int i,x])) h₂:=fun b ob q=>by
   by_cases hb:b=s.heap.objs.size
   ·subst hb
    rw[a_] at q
    cases q
    exact⟨by show 2≤sizeLine;decide,[.int i tk,u2], .cons ⟨_,rfl⟩ (.cons ru .nil),⟨_,ht₂,rfl,_,rfl⟩⟩
   ·rw[bg hb] at q
    refine(I.hok b ob q).wm (fun c v hc z=>?_) (fun c z=>sm c _ z) fun c ys z=>sm c _ z
    rcases hc with rfl | hc
    ·exact kk c v (nit c _ q).1 (nit c _ q).2 z
    ·exact kk c v (nit c _ hc).1 (nit c _ hc).2 z
  have nch:∀b,b ∉ [e,it]→b≠e∧b≠it:=fun b hb=>⟨fun z=>hb (by simp [z]),fun z=>hb (by simp [z])⟩
  have I2:Inv X pins σ (upd H s.heap.objs.size (.tup [.int i,x])) {s with heap:=h₂,toks:=tk+1}:=by
   refine I.step (g':=s.gens) (d':=s.drawn) (ch:=[e,it]) (fun b hb=>?_) (fun b o _ _ hb q _=>kk b o (nch b hb).1 (nch b hb).2 q) (fun b o _ _ hb q _=>⟨o.slots,kk b o (nch b hb).1 (nch b hb).2 q⟩)
    (fun b o hb q n=>by rw[bg (Nat.ne_of_lt (Heap.lt_size q))];exact n) (fun b o hb q=>⟨o,kk b o (nch b hb).1 (nch b hb).2 q⟩) (fun b ys z=>sm b _ z) (fun b o u z=>sm b _ z) (fun b ps z=>⟨#[],by rw[sm b _ z];simp⟩) (fun m hm=>?_) hok I.bare
   ·rcases List.mem_cons.mp hb with rfl | hb
    ·exact⟨f3,f1,f4,f5⟩
    ·have z:b=it:=by simpa using hb
     subst z
     exact⟨g3,g1,g4,g5⟩
   ·obtain⟨o,es,ep,ho,r⟩:=hm
    exact⟨o,es,ep,kk _ o (Ne.symm f1) (Ne.symm g1) ho,r⟩
  refine⟨.ref s.heap.objs.size,_,I2,rfl,⟨s.heap.objs.size,x,hn,rfl,fun ys hy=>(by rw[I.rB hy hq];exact hx),rfl⟩,⟨⟨_,by simpa using he₂⟩,hit₁.at fun o q=>(hs₂.2 it (Ne.symm hei)).trans q⟩,fun b hb=>?_⟩
  rcases List.mem_cons.mp hb with rfl | hb
  ·rw[bg (Nat.ne_of_lt hel)];exact f0
  ·have z:b=it:=by simpa using hb
   subst z
   obtain⟨o,ho,_⟩:=hit
   rw[bg (Nat.ne_of_lt (Heap.lt_size ho))];exact g0
 done:=by
  intro X hP hw hK hc i pins s σ H E I hf st hg
  subst hP hw hK
  obtain⟨xs,hq,hx⟩:=hg
  obtain⟨its,rv,p,hz⟩:=I.tuple hq
  have p':s.heap.IsTuple a its.toArray:=p
  obtain⟨⟨old,he⟩,hit⟩:=st
  obtain⟨g0,g1,g2,g3,g4,g5⟩:=hf it (by simp)
  have hl:=rv.length
  have hT:s.TypeIs (.ref e) "enumerate":=⟨_,he,rfl⟩
  unfold pyNext
  refine wpAny_bind (wpAny_attempt (wpAny_callSpecial?_slot (name:=Str.ofString "__next__") hT F.slot_enumerate_next (wpAny_call_entry F.slot_enumerate_next hT F.entry_enumerate_next ?_ (F.args_enumerate_next_1 _))))
  show wpAny _ _ (field (.ref e) 2 >>=_) _ _ _;refine wpAny_bind (wpAny_field he rfl (x:= .ref it) rfl ?_)
  refine wpAny_bind (lp (A:=X.A.in1) (I.ok.hd hc) hit p' (by simp;omega) fun h' x he' hx'=>?_)
  obtain⟨o,ho,hcl⟩:=hx'
  refine wpAny_bind (wpAny_isInstance (T:="StopIteration") (b:=true) ⟨o,ho,hcl⟩ isSubtype_stop ?_)
  exact wpAny_pure ⟨rfl,I.turned (t':=s.toks) (fun b o hb q=>he' b o hb q) g0 g1 g3 g4 g5⟩
 self:=fun A i s Q E st h=>let⟨⟨_,he⟩,_⟩:=st;wpAny_pyIter_enum he h
section
variable {X:Cx}
noncomputable def t8(f:FD):aw→R (List D):=fun δ=>(f δ).bind fun d=>match d with | .tup ds=> .ok (ft ds) | _=> .no
theorem vX{elts:List Expr}{k:Nat}{tpos:Pos}{a:Expr}{f:FD}{p pos:Pos}(h:QD X a f)(hg:Gl X "enumerate")(hm:X.mg "enumerate"=none)(hs:starEach [a] X.env=[(false,eval a X.env)]:=by rfl):yd X (.Tuple elts k tpos) (.Call (.Name "enumerate" p) [a] [] pos) (t8 f):=by
 refine⟨?_⟩
 intro pins s σ H RR I ⟨Z,B,δ,ds,E,hf,q⟩
 obtain⟨d,h1,h2⟩:=R.ak hf
 have hA:=fJ h.1 iX hs pos pins s σ H (fun vs H1=>aY H H1∧∃v,vs=[v]∧Rep X.K B H1 d v) I ⟨Z,B,δ,d,E,h1,fun v H1 s1 r1=>⟨s1,v,rfl,r1⟩⟩
 refine Call_ (l7 I hg hm boot_enumerate (PyProof.Rows.callWith_type1 (dQ hA fun us s1 ⟨vs,H1,I1,r1,ss,v,ev,rr⟩=>?_) hs rfl))
 subst ev
 obtain⟨u,rfl,ru⟩:=vals1 r1
 cases d with
 | tup es=>
   cases h2
   obtain⟨b,xs,rfl,l,rs⟩:=Rep.tup.mp rr
   cases ru
   obtain⟨its,rv,pt,hz⟩:=I1.tuple l.sq
   refine wM (items:=its.toArray) pt fun h' he hit kk=>wpAny_pyIter_enum he ?_
   have I2:Inv X pins σ H1 {s1 with heap:=h'}:=I1.kept (t':=s1.toks) kk
   refine⟨s1.heap.objs.size+1,[s1.heap.objs.size+1,s1.heap.objs.size],_,_,H1,rfl,I2,wq b (s1.heap.objs.size+1) s1.heap.objs.size (Nat.succ_ne_self _),⟨⟨_,he⟩,hit⟩,fun c hc=>?_,q _ H1 ss fun B' H' pr=>?_⟩
   ·have hle:s1.heap.objs.size≤c:=by
     rcases List.mem_cons.mp hc with z | hc
     ·rw[z];exact Nat.le_succ _
     ·have z:c=s1.heap.objs.size:=by simpa using hc
      rw[z];exact Nat.le_refl _
    exact I1.tW hle (I1.hok.fresh hle)
   ·have l':tp X.K B' H' b xs:=l.elim (fun z=> .inl ⟨(pr.rd z.2 z.1).2,(pr.rd z.2 z.1).1⟩) .inr
    have rs':=rs.br pr
    refine⟨fun i d hd=>?_,⟨xs,l'.sq,by rw[←rs.length];unfold ft;simp⟩⟩
    unfold ft at hd
    rw[List.getElem?_map,List.getElem?_zipIdx] at hd
    cases e:es[i]? with
    | none=>rw [e] at hd;cases hd
    | some d0=>
      rw[e] at hd
      have hd:D.tup [.int ((0+i:Nat):Int),d0]=d:=Option.some.inj hd
      rw[Nat.zero_add] at hd
      obtain⟨x,hx,rx⟩:=rs'.get e
      refine⟨⟨xs,x,l'.sq,hx⟩,fun v H'' y hB'=>?_⟩
      obtain⟨p,y,hp,rfl,hy,rfl⟩:=y
      refine⟨bh hp,?_⟩
      subst hd
      have hy2:=hy xs l'.sq
      rw[hx] at hy2
      cases hy2
      refine Rep.tup.mpr ⟨p,_,rfl, .inl ⟨fun ha=>?_, .inl a_⟩,aH.cons (Rep.int.mpr rfl) (aH.cons (rx.same (bh hp)) aH.nil)⟩
      obtain⟨o,ho⟩:=hB' p ha
      rw[hp] at ho;cases ho
 | _=>cases h2
end
end L2
end
section
set_option maxRecDepth 100000
set_option maxHeartbeats 4000000
namespace L2
open PySem PySem.Spec PyProof.Rows
section
variable {X:Cx}
theorem zT:kM X (binaryOp .FloorDiv) (rI (fun _ j=>0 < j∧j.natAbs.log2 < 9000) fun i j=> .int (i / j)):=Iy fun i j _ _ _ _ _ hc q=>by
 have h1:(0:Int) < j:=hc.1
 exact floordiv_int (by omega) (by rw[Int.fdiv_eq_ediv_of_nonneg i (by omega)];exact q) (.inl (PyProof.noPylong_of_log2 hc.2))
noncomputable abbrev vh:D→D→R D:=ue (fun _ j=>decide (0 < j∧j.natAbs.log2 < 9000)) fun i j=>i / j
theorem z8:j0 X (binaryOp .FloorDiv) vh:=xk zT fun i j h=>(of_decide_eq_true h:0 < j∧j.natAbs.log2 < 9000)
theorem uO{K:PySem.W.Frag}{B:List Addr}{H:Hp}{ds:List D}{xs:List V}(r:aH K B H ds xs):∀n:Nat,aH K B H (List.replicate n ds).flatten (List.replicate n xs).flatten
 | 0=>aH.nil
 | n+1=>by rw[List.replicate_succ,List.replicate_succ,List.flatten_cons,List.flatten_cons];exact r.append (uO r n)
noncomputable def DN(f:aw→R (List D))(g:FD):aw→R (List D):=fun δ=>(f δ).bind fun ds=>(g δ).bind fun d=>match d with
 | .int k=>R.bZ (decide (0≤k∧k < 1000000∧ds.length*k.toNat≤sizeLine)) (.ok (List.replicate k.toNat ds).flatten)
 | _=> .no
theorem C5{a b:Expr}{f:aw→R (List D)}{g:FD}{pos:Pos}(ha:QN X a f)(hb:QD X b g):QN X (.BinOp a .Mult b pos) (DN f g):=by
 refine⟨(x3 Fd ha.1 hb.1).imp fun σ H Q ⟨Z,B,δ,es,E,hf,q⟩=>?_⟩
 obtain⟨ds,h1,h2⟩:=R.ak hf
 obtain⟨d,h3,h4⟩:=R.ak h2
 split at h4
 ·rename_i k
  obtain⟨h5,h6⟩:=R.bo h4
  cases h6
  obtain⟨k0,k1,k2⟩:=of_decide_eq_true h5
  refine⟨Z,B,δ,ds,E,h1,fun a xs H1 s1 n1 e1 r1=>⟨Z,B,δ, .int k,E.same s1,h3,fun v H2 s2 r2=>⟨a,k,xs,rfl,Rep.int.mp r2,s2 a _ e1,by omega,by omega,by rw[←r1.length];exact k2,fun p hp=>?_⟩⟩⟩
  refine q p _ _ (s1.trans (s2.trans (bh hp))) ((s1.trans s2).free hp) a_ ?_
  refine(uO r1 k.toNat).br fun b o e nb=>⟨(s2.trans (bh hp)) b o e,fun hm=>?_⟩
  rcases List.mem_cons.mp hm with z | z
  ·rw[z] at e;rw [s2 p _ e] at hp;cases hp
  ·exact nb (List.mem_cons_of_mem _ z)
 ·cases h4
noncomputable def Hy(ns:List Int):List Int:=ns.mergeSort fun a b=>decide (a≤b)
noncomputable def IV:List D→R D
 | [.lst ds]=>(match ints? ds with | some ns=>R.bZ (decide (ns.length < 64)) (.ok (.lst ((Hy ns).map .int))) | none=> .no)
 | _=> .no
theorem getD_in{l:List Int}{i:Nat}(h:i < l.length):l.getD i 0∈l:=by
 have e:l.getD i 0=l[i]:=by simp [h]
 rw[e];exact List.getElem_mem h
theorem fold_min:∀(ns:List Int) (n:Int),ns.foldl min n∈n ::ns∧∀a∈n ::ns,ns.foldl min n≤a
 | [],n=>⟨by simp,fun a ha=>by simp at ha;subst ha;exact Int.le_refl _⟩
 | x ::ns,n=>by
   obtain⟨h1,h2⟩:=fold_min ns (min n x)
   rw[List.foldl_cons]
   refine⟨?_,fun a ha=>?_⟩
   ·rcases List.mem_cons.mp h1 with z | z
    ·rw[z];by_cases hc:n≤x
     ·rw[Int.min_eq_left hc];simp
     ·rw[Int.min_eq_right (by omega)];simp
    ·exact List.mem_cons_of_mem _ (List.mem_cons_of_mem _ z)
   ·have hm:=h2 _ List.mem_cons_self
    rcases List.mem_cons.mp ha with z | z
    ·subst z;omega
    ·rcases List.mem_cons.mp z with z | z
     ·subst z;omega
     ·exact h2 a (List.mem_cons_of_mem _ z)
theorem fold_max:∀(ns:List Int) (n:Int),ns.foldl max n∈n ::ns∧∀a∈n ::ns,a≤ns.foldl max n
 | [],n=>⟨by simp,fun a ha=>by simp at ha;subst ha;exact Int.le_refl _⟩
 | x ::ns,n=>by
   obtain⟨h1,h2⟩:=fold_max ns (max n x)
   rw[List.foldl_cons]
   refine⟨?_,fun a ha=>?_⟩
   ·rcases List.mem_cons.mp h1 with z | z
    ·rw[z];by_cases hc:n≤x
     ·rw[Int.max_eq_right hc];simp
     ·rw[Int.max_eq_left (by omega)];simp
    ·exact List.mem_cons_of_mem _ (List.mem_cons_of_mem _ z)
   ·have hm:=h2 _ List.mem_cons_self
    rcases List.mem_cons.mp ha with z | z
    ·subst z;omega
    ·rcases List.mem_cons.mp z with z | z
     ·subst z;omega
     ·exact h2 a (List.mem_cons_of_mem _ z)
noncomputable def oS:List D→R D
 | [.lst ds]=>(match ints? ds with | some (n ::ns)=> .ok (.int (ns.foldl min n)) | _=> .no)
 | ds=>p9 ds
noncomputable def A5:List D→R D
 | [.lst ds]=>(match ints? ds with | some (n ::ns)=> .ok (.int (ns.foldl max n)) | _=> .no)
 | ds=>F3 ds
theorem v_(hc:X.calm=true):cT X (.builtin "min") oS:=by
 intro pins s σ H B ds d xs us I hb rx rs hg
 unfold oS at hg
 split at hg
 ·split at hg
  ·rename_i es n ns e
   cases hg
   obtain⟨x,rfl,r⟩:=rs.one
   obtain⟨a,ys,rfl,l,r⟩:=Rep.lst.mp r
   obtain⟨u,rfl,ru⟩:=vals1 rx
   cases ru
   obtain⟨its,k,rv,e1,hz⟩:=I.Ef l
   rw[fT r e] at rv
   obtain⟨ps,rfl,hps⟩:=gO rv
   have hl:s.heap.IsList a (intItems ps.toArray):=⟨_,e1,rfl,k,by simp [intItems]⟩
   have hlp:ps.length=ns.length+1:=by have:=congrArg List.length hps;simpa using this
   refine min_intList (I.ok.hd hc) hl (by simp;omega) fun v h' tk hv hk=>?_
   obtain⟨t,rfl⟩:=intItems_at hv
   obtain⟨b1,b2⟩:=argBest_lt (numAt ps.toArray) (ps.toArray.size - 1)
   refine⟨.int _,H,I.kept hk,⟨t,rfl⟩,aY.refl H,Rep.int.mpr ?_⟩
   obtain⟨m1,m2⟩:=fold_min ns n
   have hge:∀j,j < ps.length→numAt ps.toArray j=(n ::ns).getD j 0:=fun j hj=>by rw[numAt_eq,←hps]
   have hin:numAt ps.toArray (argBest (fun i j=>decide (numAt ps.toArray i < numAt ps.toArray j)) (ps.toArray.size - 1))∈n ::ns:=by
    rw[hge _ (by simp at b1 ⊢;omega)];exact getD_in (by simp at b1 ⊢;omega)
   have hle:=m2 _ hin
   obtain⟨j,hj,ej⟩:=List.getElem_of_mem m1
   have hj':j < ns.length+1:=by simpa using hj
   have h3:=b2 j (by simp;omega)
   rw[hge j (by omega)] at h3
   have h4:(n ::ns).getD j 0=ns.foldl min n:=by rw[←ej,List.getD_eq_getElem?_getD,List.getElem?_eq_getElem hj];rfl
   rw[h4] at h3
   congr 1
   omega
  ·cases hg
 ·exact ID hc pins s σ H B _ d xs us I hb rx rs hg
theorem Ga(hc:X.calm=true):cT X (.builtin "max") A5:=by
 intro pins s σ H B ds d xs us I hb rx rs hg
 unfold A5 at hg
 split at hg
 ·split at hg
  ·rename_i es n ns e
   cases hg
   obtain⟨x,rfl,r⟩:=rs.one
   obtain⟨a,ys,rfl,l,r⟩:=Rep.lst.mp r
   obtain⟨u,rfl,ru⟩:=vals1 rx
   cases ru
   obtain⟨its,k,rv,e1,hz⟩:=I.Ef l
   rw[fT r e] at rv
   obtain⟨ps,rfl,hps⟩:=gO rv
   have hl:s.heap.IsList a (intItems ps.toArray):=⟨_,e1,rfl,k,by simp [intItems]⟩
   have hlp:ps.length=ns.length+1:=by have:=congrArg List.length hps;simpa using this
   refine max_intList (I.ok.hd hc) hl (by simp;omega) fun v h' tk hv hk=>?_
   obtain⟨t,rfl⟩:=intItems_at hv
   obtain⟨b1,b2⟩:=argBest_gt (numAt ps.toArray) (ps.toArray.size - 1)
   refine⟨.int _,H,I.kept hk,⟨t,rfl⟩,aY.refl H,Rep.int.mpr ?_⟩
   obtain⟨m1,m2⟩:=fold_max ns n
   have hge:∀j,j < ps.length→numAt ps.toArray j=(n ::ns).getD j 0:=fun j hj=>by rw[numAt_eq,←hps]
   have hin:numAt ps.toArray (argBest (fun i j=>decide (numAt ps.toArray i > numAt ps.toArray j)) (ps.toArray.size - 1))∈n ::ns:=by
    rw[hge _ (by simp at b1 ⊢;omega)];exact getD_in (by simp at b1 ⊢;omega)
   have hle:=m2 _ hin
   obtain⟨j,hj,ej⟩:=List.getElem_of_mem m1
   have hj':j < ns.length+1:=by simpa using hj
   have h3:=b2 j (by simp;omega)
   rw[hge j (by omega)] at h3
   have h4:(n ::ns).getD j 0=ns.foldl max n:=by rw[←ej,List.getD_eq_getElem?_getD,List.getElem?_eq_getElem hj];rfl
   rw[h4] at h3
   congr 1
   omega
  ·cases hg
 ·exact H_ hc pins s σ H B _ d xs us I hb rx rs hg
end
end L2
namespace L3
open PySem PySem.Spec PyProof.Rows L2
noncomputable def wJ(S:aS):V3→Option (List D)
 | .d (.lst ds)=>some ds
 | .loc k=>cK S k
 | _=>none
theorem B6{K:PySem.W.Frag}{cl:Nat→Addr}{ρ:P3}{H:Hp}{S:aS}{v:V3}{x:V}{ds:List D}(w:SW K cl ρ H S)(h:wJ S v=some ds)(r:bp K ρ H v x):∃a xs,x= .ref a∧qV K [] H a xs∧aH K ρ.b H ds xs:=by
 unfold wJ at h
 split at h
 ·cases h
  unfold bp Rep at r
  obtain⟨a,xs,e,l,rs⟩:=r
  exact⟨a,xs,e,l.br (fun b o e _=>⟨e,by simp⟩),rs⟩
 ·unfold bp at r
  obtain⟨a,a1,rfl⟩:=r
  obtain⟨xs,e,rs⟩:=w.ob _ a _ a1 (dI h)
  exact⟨a,xs,rfl, .inl ⟨by simp, .inl e⟩,rs⟩
 ·cases h
section
variable {X:Cx} {cl:Nat→Addr}
noncomputable def CU(fa fb:FX):FX:=fun δ S=>(fa δ S).bind fun a S1=>(fb δ S1).bind fun b S2=>match wJ S2 a,wJ S2 b with
 | some ds,some es=>R3.bZ (decide (ds.length+es.length≤sizeLine)) (.ok (.loc S2.length) (S2++[.lst (ds++es)]))
 | _,_=> .no
theorem BX{a b:Expr}{fa fb:FX}{pos:Pos}(ha:PX X cl a fa)(hb:PX X cl b fb):PX X cl (.BinOp a .Add b pos) (CU fa fb):=⟨(x3 yr ha.1 hb.1).imp fun σ H Q ⟨ρ,S,δ,v,S',E,hf,q⟩=>by
 obtain⟨a,S1,h1,h2⟩:=R3.ak hf
 obtain⟨b,S2,h3,h4⟩:=R3.ak h2
 split at h4
 ·rename_i ds es e1 e2'
  obtain⟨hl,h5⟩:=R3.bo h4
  cases h5
  refine⟨ρ,S,δ,a,S1,E,h1,fun u1 ρ1 H1 p1 w1 r1=>⟨ρ1,S1,δ,b,S2,E.to p1 w1,h3,fun u2 ρ2 H2 p2 w2 r2=>?_⟩⟩
  obtain⟨la,xs,rfl,l1,rs1⟩:=B6 w2 e1 (r1.pre p2)
  obtain⟨lb,ys,rfl,l2,rs2⟩:=B6 w2 e2' r2
  refine⟨[],la,lb,xs,ys,rfl,rfl,l1,l2,by rw[←rs1.length,←rs2.length];exact of_decide_eq_true hl,fun p hp=>?_⟩
  obtain⟨w3,p3⟩:=w2.new (a:=p) (o:= .lst (ds++es)) (bh (o:= .lst (xs++ys)) hp) hp ⟨xs++ys,a_,(rs1.append rs2).br (fun b o e nb=>⟨by rw[bg (bO e hp)];exact e,fun hb=>by
   rcases P3.mem_push hb with z | z
   ·exact nb z
   ·exact bO e hp z⟩)⟩
  exact q _ _ _ (p1.trans (p2.trans p3)) w3 (by unfold bp;exact⟨p,by show(ρ2.r++[p])[_]? =_;rw [←w2.len,List.getElem?_append_right (Nat.le_refl _),Nat.sub_self];rfl,rfl⟩)
 ·cases h4⟩
theorem Ew{fa fb:FX}{δ:DE}{S:aS}{Q:V3→aS→Prop}(h:W3 (fa δ S) fun a S1=>W3 (fb δ S1) fun b S2=>∃ds es,wJ S2 a=some ds∧wJ S2 b=some es∧ds.length+es.length≤sizeLine∧Q (.loc S2.length) (S2++[.lst (ds++es)])):W3 (CU fa fb δ S) Q:=
 W3.bind (h.mono fun _ _ h=>W3.bind (h.mono fun _ _ ⟨ds,es,e1,e2',hl,q⟩=>by
  simp only[e1,e2']
  exact W3.wh (decide_eq_true hl) (W3.ok q)))
noncomputable def LI(i:Nat):FZ:=fun δ S=>match gy δ i with
 | none=> .no
 | some k=>(match cK S k with | some _=> .ok (.nx δ) (S.set k (.lst [])) | none=> .no)
end
end L3
end
section
set_option maxRecDepth 100000
set_option maxHeartbeats 4000000
namespace L3
open PySem PySem.Spec PyProof.Rows L2
noncomputable def kI(S:aS)(c k:Nat):Option (List (Str × V3)):=match S[k]? with | some (.ins c' fs)=>(if c'=c then some fs else none) | _=>none
theorem ke{S:aS}{c k:Nat}{fs:List (Str × V3)}(h:kI S c k=some fs):S[k]? =some (.ins c fs):=by
 unfold kI at h
 split at h
 ·rename_i c' fs' e
  split at h
  ·rename_i hc;cases h;rw [e,hc]
  ·cases h
 ·cases h
theorem xD{K:PySem.W.Frag}{ρ:P3}{H:Hp}{f:Str}{v:V3}:∀{fs:List (Str × V3)} {ys:List (Str × V)},ys.map (·.1)=fs.map (·.1)→aF K ρ H (fs.map (·.2)) (ys.map (·.2))→fs.lookup f=some v→∃x,ys.lookup f=some x∧bp K ρ H v x
 | [],ys,_,_,h=>by simp at h
 | (g,w) ::fs,[],e,_,_=>by simp at e
 | (g,w) ::fs,(g',y) ::ys,e,r,h=>by
   obtain⟨e1,e2'⟩:=List.cons.inj e
   have e1:g'=g:=e1
   subst e1
   obtain⟨x,xs,ex,r1,r2⟩:=r.cu
   cases ex
   rw[List.lookup_cons] at h ⊢
   cases hq:f==g' with
   | true=>rw [hq] at h;cases h;exact⟨y,rfl,r1⟩
   | false=>rw [hq] at h;exact xD e2' r2 h
theorem uV{f:Str}:∀{fs:List (Str × V3)} {ys:List (Str × V)},ys.map (·.1)=fs.map (·.1)→fs.lookup f=none→ys.lookup f=none
 | [],[],_,_=>rfl
 | [],_ ::_,e,_=>by simp at e
 | _ ::_,[],e,_=>by simp at e
 | (g,w) ::fs,(g',y) ::ys,e,h=>by
   obtain⟨e1,e2'⟩:=List.cons.inj e
   have e1:g'=g:=e1
   subst e1
   rw[List.lookup_cons] at h ⊢
   cases hq:f==g' with
   | true=>rw [hq] at h;cases h
   | false=>rw [hq] at h;exact uV e2' h
noncomputable def va(f:Str)(v:V3):List (Str × V3)→List (Str × V3)
 | []=>[(f,v)]
 | (g,x) ::r=>if g=f then(g,v) ::r else(g,x) ::va f v r
theorem x9{K:PySem.W.Frag}{ρ:P3}{H:Hp}{f:Str}{v:V3}{u:V}(rv:bp K ρ H v u):∀{fs:List (Str × V3)} {ys:List (Str × V)},ys.map (·.1)=fs.map (·.1)→aF K ρ H (fs.map (·.2)) (ys.map (·.2))→
 (jy f u ys).map (·.1)=(va f v fs).map (·.1)∧aF K ρ H ((va f v fs).map (·.2)) ((jy f u ys).map (·.2))
 | [],[],_,_=>⟨rfl,aF.cons rv aF.nil⟩
 | [],_ ::_,e,_=>by simp at e
 | _ ::_,[],e,_=>by simp at e
 | (g,w) ::fs,(g',y) ::ys,e,r=>by
   obtain⟨e1,e2'⟩:=List.cons.inj e
   have e1:g'=g:=e1
   subst e1
   obtain⟨x,xs,ex,r1,r2⟩:=r.cu
   cases ex
   unfold va jy
   by_cases hg:g'=f
   ·rw[if_pos hg,if_pos hg]
    exact⟨by rw[List.map_cons,List.map_cons,e2'],aF.cons rv r2⟩
   ·rw[if_neg hg,if_neg hg]
    obtain⟨h1,h2⟩:=x9 rv e2' r2
    exact⟨by rw[List.map_cons,List.map_cons,h1],aF.cons r1 h2⟩
section
variable {X:Cx} {cl:Nat→Addr}
noncomputable def tY(c:Nat)(f:Str)(g:FX):FX:=fun δ S=>(g δ S).bind fun v S1=>match v with
 | .loc k=>(match kI S1 c k with | some fs=>(match fs.lookup f with | some v=> .ok v S1 | none=> .no) | none=> .no)
 | _=> .no
theorem l_{c:Nat}{e:Expr}{f:Str}{g:FX}{pos:Pos}(hC:vH X.K (cl c))(hn:eP X.K (cl c) f)(he:PX X cl e g)(hb:attributeBase e f X.env (eval e X.env)=eval e X.env:=by rfl):PX X cl (.Attribute e f pos) (tY c f g):=⟨(Fz he.1 hb).imp fun σ H Q ⟨ρ,S,δ,v,S',E,hf,q⟩=>by
 obtain⟨o,S1,h1,h2⟩:=R3.ak hf
 split at h2
 ·rename_i k
  split at h2
  ·rename_i fs e1
   split at h2
   ·rename_i w e2'
    cases h2
    refine⟨ρ,S,δ, .loc k,_,E,h1,fun u ρ1 H1 p1 w1 r1=>?_⟩
    unfold bp at r1
    obtain⟨a,a1,rfl⟩:=r1
    obtain⟨dx,ys,ey,ek,rs⟩:=w1.ob k a _ a1 (ke e1)
    obtain⟨x,hx,rx⟩:=xD ek rs e2'
    exact⟨a,cl c,dx,ys,x,rfl,ey,hC,hn,hx,q x ρ1 H1 p1 w1 rx⟩
   ·cases h2
  ·cases h2
 ·cases h2⟩
theorem w_fld{c k:Nat}{f:Str}{g:FX}{δ:DE}{S:aS}{Q:V3→aS→Prop}(h:W3 (g δ S) fun v S1=>∃fs w,v= .loc k∧S1[k]? =some (.ins c fs)∧fs.lookup f=some w∧Q w S1):W3 (tY c f g δ S) Q:=
 W3.bind (h.mono fun v S1 ⟨fs,w,e1,e2',e3,q⟩=>by
  subst e1
  have e4:kI S1 c k=some fs:=by unfold kI;simp only[e2',if_true]
  simp only[e4,e3]
  exact W3.ok q)
noncomputable def g_(P:Program)(w:World)(K:PySem.W.Frag)(mg:Str→Option Value)(base:Heap)(cl:Nat→Addr)(k c:Nat)(m:Str)(n:Nat)(g:List V3→aS→R3 V3):Prop:=
 ∃(f:Addr) (fd:FuncData) (ps:List Str),vH K (cl c)∧Meth K (cl c) m f∧hJ P w K mg base rh k f fd ps (Bp K cl (n+1) g)∧Binds K fd ps []
noncomputable def rD(c:Nat)(m:Str)(g:List V3→aS→R3 V3)(fo:FX)(fs:FA):FX:=fun δ S=>(fo δ S).bind fun o S1=>match o with
 | .loc k=>(match kI S1 c k with | some ys=>(match ys.lookup m with | none=>(fs δ S1).bind fun vs S2=>g (.loc k ::vs) S2 | some _=> .no) | none=> .no)
 | _=> .no
theorem pF{g:List V3→aS→R3 V3}{k j n c:Nat}{m:Str}{o e:Expr}{es:List Expr}{fo:FX}{fs:FA}{apos pos:Pos}{pl:Sem Bool}(M:g_ X.prog X.w X.K X.mg X.base cl k c m n g)(hr:d8 j X.A)(hkj:k≤j)(ho:PX X cl o fo)(ha:zV X cl (e ::es) fs)(hn:∀δ S ds S',fs δ S= .ok ds S'→ds.length=n)
 (hst:starEach (e ::es) X.env=(false,eval e X.env) ::starEach es X.env:=by rfl) (hpl:(backTo pos (starEach es X.env)).any (·.1)=false:=by rfl)
 (ht:eval (.Call (.Attribute o m apos) (e ::es) [] pos) X.env=(do
   let ov ←eval o X.env
   standAt apos.atName
   let(f,first) ←holding [ov] (getMethod ov m pl)
   callWith pos f first (backTo pos (starEach (e ::es) X.env)) (backToKw pos (keywordEach [] X.env))):=by rfl) :
 PX X cl (.Call (.Attribute o m apos) (e ::es) [] pos) (rD c m g fo fs):=by
 obtain⟨f,fd,ps,hC,hm,F,hb⟩:=M
 refine⟨(Dt ho.1 hC hm F (hr.mono hkj) hb .nil pV ha.1 hst hpl ht).imp fun σ H Q ⟨ρ,S,δ,v,S',E,hf,q⟩=>?_⟩
 obtain⟨ov,S1,h1,h2⟩:=R3.ak hf
 split at h2
 ·rename_i kk
  split at h2
  ·rename_i ys e1
   split at h2
   ·rename_i e2'
    obtain⟨vs,S2,h3,h4⟩:=R3.ak h2
    refine⟨ρ,S,δ, .loc kk,S1,E,h1,fun u ρ1 H1 p1 w1 r1=>?_⟩
    have r1':=r1
    unfold bp at r1
    obtain⟨a,a1,rfl⟩:=r1
    obtain⟨dx,zs,ey,ek,rs⟩:=w1.ob kk a _ a1 (ke e1)
    refine⟨a,dx,zs,rfl,ey,uV ek e2',ρ1,S1,δ,vs,S2,E.to p1 w1,h3,fun us ρ2 H2 p2 w2 r2=>?_⟩
    show Bp X.K cl (n+1) g (V.ref a ::(us++[])) H2 Q E0
    rw[List.append_nil]
    exact⟨by rw[List.length_cons,←r2.length,hn δ S1 vs S2 h3],ρ2,S2, .loc kk ::vs,v,S',w2,aF.cons (r1'.pre p2) r2,h4,fun z ρ3 H3 p3 w3 r3=>q z ρ3 H3 (p1.trans (p2.trans p3)) w3 r3⟩
   ·cases h2
  ·cases h2
 ·cases h2
noncomputable def uB(P:Program)(w:World)(K:PySem.W.Frag)(mg:Str→Option Value)(base:Heap)(cl:Nat→Addr)(k c:Nat)(x:Str)(n:Nat)(g:List V3→aS→R3 V3):Prop:=
 ∃(f:Addr) (fd:FuncData) (ps:List Str),Mk K (cl c) f∧hJ P w K mg base rh k f fd ps (Bp K cl (n+1) g)∧mg x=some (.ref (cl c))∧Binds K fd ps []
noncomputable def xJ(c:Nat)(g:List V3→aS→R3 V3)(fs:FA):FX:=fun δ S=>(fs δ S).bind fun vs S1=>(g (.loc S1.length ::vs) (S1++[.ins c []])).bind fun v S2=>match v with
 | .d .cI=> .ok (.loc S1.length) S2
 | _=> .no
theorem xl{g:List V3→aS→R3 V3}{k j n c:Nat}{x:Str}{p pos:Pos}{e:Expr}{es:List Expr}{fs:FA}(M:uB X.prog X.w X.K X.mg X.base cl k c x n g)(hr:d8 j X.A)(hkj:k+1≤j)(hg:Gl X x)(ha:zV X cl (e ::es) fs)(hn:∀δ S ds S',fs δ S= .ok ds S'→ds.length=n)
 (hdb:(x==("__debug__":Str))=false:=by decide) (he:starEach (e ::es) X.env=(false,eval e X.env) ::starEach es X.env:=by rfl) (hpl:(backTo pos (starEach es X.env)).any (·.1)=false:=by rfl) :
 PX X cl (.Call (.Name x p) (e ::es) [] pos) (xJ c g fs):=by
 obtain⟨f,fd,ps,M,F,hm,hb⟩:=M
 refine⟨(DZ M F (hr.mono hkj) hg hm hb .nil pV ha.1 hdb he hpl).imp fun σ H Q ⟨ρ,S,δ,v,S',E,hf,q⟩=>?_⟩
 obtain⟨vs,S1,h1,h2⟩:=R3.ak hf
 obtain⟨v0,S2,h3,h4⟩:=R3.ak h2
 split at h4
 ·cases h4
  refine⟨ρ,S,δ,vs,S1,E,h1,fun us ρ1 H1 p1 w1 r1 xa dx hx hdx hne=>?_⟩
  have hx1:upd H1 dx (.own xa) xa=none:=by rw[bg (fun z=>hne z.symm)];exact hx
  have sm:aY H1 (upd (upd H1 dx (.own xa)) xa (.ins (cl c) dx [])):=(bh hdx).trans (bh hx1)
  obtain⟨w2,p2⟩:=w1.new (a:=xa) (o:= .ins c []) sm hx ⟨dx,[],a_,rfl,aF.nil⟩
  show Bp X.K cl (n+1) g (V.ref xa ::(us++[])) _ _ E0
  rw[List.append_nil]
  have rl:bp X.K (ρ1.push xa) (upd (upd H1 dx (.own xa)) xa (.ins (cl c) dx [])) (.loc S1.length) (.ref xa):=by
   unfold bp
   exact⟨xa,by show(ρ1.r++[xa])[_]? =_;rw [←w1.len,List.getElem?_append_right (Nat.le_refl _),Nat.sub_self];rfl,rfl⟩
  exact⟨by rw[List.length_cons,←r1.length,hn δ S vs S1 h1],_,_, .loc S1.length ::vs, .d .cI,_,w2,aF.cons rl (r1.pre p2),h3,fun z ρ3 H3 p3 w3 r3=>⟨by unfold bp Rep at r3;exact r3,q _ ρ3 H3 (p1.trans (p2.trans p3)) w3 (rl.pre p3)⟩⟩
 ·cases h4
noncomputable def zr(c:Nat)(f:Str)(fo fe:FX):FZ:=fun δ S=>(fe δ S).bind fun v S1=>(fo δ S1).bind fun o S2=>match o with
 | .loc k=>(match kI S2 c k with | some fs=>R3.bZ (decide (fs.length < 1000)) (.ok (.nx δ) (S2.set k (.ins c (va f v fs)))) | none=> .no)
 | _=> .no
theorem tK{c:Nat}{o value:Expr}{f:Str}{fo fe:FX}{pos pos':Pos}(hC:vH X.K (cl c))(hn:eP X.K (cl c) f)(ho:PX X cl o fo)(he:PX X cl value fe)(hs:swapsWith value (some (.Attribute o f pos')) pos.line X.env=pure false:=by rfl) :
 PZ X cl (.Assign [.Attribute o f pos'] value pos) (zr c f fo fe):=⟨(EL ho.1 he.1 hs).imp fun D σ H ⟨ρ,S,δ,ou,S',E,hf,q⟩=>by
 obtain⟨v,S1,h1,h2⟩:=R3.ak hf
 obtain⟨vo,S2,h3,h4⟩:=R3.ak h2
 split at h4
 ·rename_i k
  split at h4
  ·rename_i fs e1
   obtain⟨hl,h5⟩:=R3.bo h4
   cases h5
   refine⟨ρ,S,δ,v,S1,E,h1,fun u ρ1 H1 p1 w1 r1=>⟨ρ1,S1,δ, .loc k,S2,E.to p1 w1,h3,fun u2 ρ2 H2 p2 w2 r2=>?_⟩⟩
   unfold bp at r2
   obtain⟨a,a1,rfl⟩:=r2
   obtain⟨dx,ys,ey,ek,rs⟩:=w2.ob k a _ a1 (ke e1)
   have hlen:ys.length=fs.length:=by have:=congrArg List.length ek;simpa using this
   obtain⟨k1,k2⟩:=x9 (f:=f) (r1.pre p2) ek rs
   obtain⟨w3,p3⟩:=w2.put (o:= .ins c (va f v fs)) (u:= .ins (cl c) dx (jy f u ys)) a1 (w2.fz k a a1 (by rw[ke e1];intro h;cases h)) ⟨dx,_,rfl,k1,k2⟩
   exact⟨a,cl c,dx,ys,rfl,ey,hC,hn,by rw[hlen];exact of_decide_eq_true hl,q σ ρ2 _ (p1.trans (p2.trans p3)) (E.to (p1.trans (p2.trans p3)) w3)⟩
  ·cases h4
 ·cases h4⟩
theorem nh{c k:Nat}{f:Str}{fo fe:FX}{δ:DE}{S:aS}{QO:Ou→aS→Prop}(h:W3 (fe δ S) fun v S1=>W3 (fo δ S1) fun o S2=>∃fs,o= .loc k∧S2[k]? =some (.ins c fs)∧fs.length < 1000∧QO (.nx δ) (S2.set k (.ins c (va f v fs)))):W3 (zr c f fo fe δ S) QO:=
 W3.bind (h.mono fun v S1 h=>W3.bind (h.mono fun o S2 ⟨fs,e1,e2',hl,q⟩=>by
  subst e1
  have e4:kI S2 c k=some fs:=by unfold kI;simp only[e2',if_true]
  simp only[e4]
  exact W3.wh (decide_eq_true hl) (W3.ok q)))
theorem tS{c k:Nat}{m:Str}{g:List V3→aS→R3 V3}{fo:FX}{fs:FA}{δ:DE}{S:aS}{Q:V3→aS→Prop}(h:W3 (fo δ S) fun o S1=>∃ys,o= .loc k∧S1[k]? =some (.ins c ys)∧ys.lookup m=none∧W3 (fs δ S1) fun vs S2=>W3 (g (.loc k ::vs) S2) Q):W3 (rD c m g fo fs δ S) Q:=
 W3.bind (h.mono fun o S1 ⟨ys,e1,e2',e3,h⟩=>by
  subst e1
  have e4:kI S1 c k=some ys:=by unfold kI;simp only[e2',if_true]
  simp only[e4,e3]
  exact W3.bind h)
theorem AB{c:Nat}{g:List V3→aS→R3 V3}{fs:FA}{δ:DE}{S:aS}{Q:V3→aS→Prop}(h:W3 (fs δ S) fun vs S1=>W3 (g (.loc S1.length ::vs) (S1++[.ins c []])) fun v S2=>v= .d .cI∧Q (.loc S1.length) S2):W3 (xJ c g fs δ S) Q:=
 W3.bind (h.mono fun vs S1 h=>W3.bind (h.mono fun v S2 ⟨e,q⟩=>by subst e;exact W3.ok q))
end
end L3
end
section
set_option maxRecDepth 100000
set_option maxHeartbeats 4000000
namespace PySem
open Sem (wp)
noncomputable def K4(t:Bool)(h:Heap)(i l:Addr)(k:Nat):Prop:=cond t (h.IsTupleIter i l k) (h.IsListIter i l k)
noncomputable def Ls(t:Bool)(h:Heap)(l:Addr)(xs:Array Value):Prop:=cond t (h.IsTuple l xs) (h.IsList l xs)
noncomputable def AV(t:Bool):String:=cond t "tuple_iterator" "list_iterator"
section
variable {prog:Program} {w:World} {A:Around} {E:Value→Shared→Prop} {s:Shared}
end
noncomputable abbrev KH(t:Bool)(h:Heap)(l1:Addr):Heap:=h.push {cls:= .type (AV t),data:= .fields #[.ref l1, .int 0 0]}
noncomputable abbrev J9(t u:Bool)(h:Heap)(l1 l2:Addr):Heap:=(KH t h l1).push {cls:= .type (AV u),data:= .fields #[.ref l2, .int 0 0]}
noncomputable abbrev Ks(t u:Bool)(h:Heap)(l1 l2:Addr):Heap:=(J9 t u h l1 l2).push {cls:= .type "tuple",data:= .seq #[.ref h.objs.size, .ref (KH t h l1).objs.size]}
noncomputable abbrev Ll(t u:Bool)(h:Heap)(l1 l2:Addr):Heap:=(Ks t u h l1 l2).push {cls:= .type "tuple",data:= .seq #[.none, .none]}
noncomputable abbrev LW(t u:Bool)(h:Heap)(l1 l2:Addr):Heap:=(Ll t u h l1 l2).push {cls:= .type "zip",data:= .fields #[.none, .bool false, .bool false, .ref (J9 t u h l1 l2).objs.size, .ref (Ks t u h l1 l2).objs.size]}
end PySem
namespace L2
open PySem PySem.Spec PyProof.Rows
noncomputable def G1(t:Bool)(K:PySem.W.Frag)(H:Hp)(a:Addr)(xs:List V):Prop:=cond t (oJ K H a xs) (mw K H a xs)
noncomputable def LY(K:PySem.W.Frag)(t u:Bool)(a b:Addr):It:=
 ⟨fun i H=>∃xs ys x y,G1 t K H a xs∧G1 u K H b ys∧xs[i]? =some x∧ys[i]? =some y,
  fun i H v H'=>∃p x y,H p=none∧v= .ref p∧(∀xs,G1 t K H a xs→xs[i]? =some x)∧(∀ys,G1 u K H b ys→ys[i]? =some y)∧H'=upd H p (.tup [x,y]),
  fun i H=>∃xs ys,G1 t K H a xs∧G1 u K H b ys∧(xs.length≤i∨ys.length≤i)⟩
section
variable {X:Cx}
noncomputable def HC(ds es:List D):List D:=(ds.zip es).map fun p=> .tup [p.1,p.2]
noncomputable def seqD?:D→Option (List D)
 | .lst ds=>some ds
 | .tup ds=>some ds
 | _=>none
noncomputable def Kt(f g:FD):aw→R (List D):=fun δ=>(f δ).bind fun d=>(g δ).bind fun e=>match seqD? d,seqD? e with | some ds,some es=> .ok (HC ds es) | _,_=> .no
noncomputable def Ke(T U:String)(f:FD):FD:=fun δ=>(f δ).bind fun d=>match d with | .dct _ _=> .no | _=> .ok (.bl (mj (tyName d) T || mj (tyName d) U))
noncomputable def Mf(lo:Int)(n:Nat):It:=⟨fun i _=>i < n,fun i H x H'=>H'=H∧x= .int (lo - i),fun i _=>n≤i⟩
noncomputable def JN(lo:Int)(n:Nat):List D:=(List.range n).map fun(i:Nat)=>D.int (lo - i)
noncomputable def Ku(f g h:FD):aw→R (List D):=fun δ=>(f δ).bind fun d=>(g δ).bind fun e=>(h δ).bind fun k=>match d,e,k with
 | .int i, .int j, .int m=>R.bZ (decide (m= -1∧ -(2 ^ 60)≤i∧i < 2 ^ 60∧ -(2 ^ 60)≤j∧j < 2 ^ 60)) (.ok (JN i (i - j).toNat)) | _,_,_=> .no
noncomputable def bls?:List D→Option (List Bool)
 | []=>some []
 | .bl b ::ds=>(bls? ds).map (b ::·)
 | _ ::_=>none
theorem vp{K:PySem.W.Frag}{B:List Addr}{H:Hp}:∀{ds:List D} {xs:List V} {bs:List Bool},aH K B H ds xs→bls? ds=some bs→xs=bs.map V.bl
 | [],xs,bs,r,h=>by unfold aH at r;subst r;cases h;rfl
 | d ::ds,xs,bs,r,h=>by
   obtain⟨x,q,rfl,r1,r2⟩:=r.cu
   cases d with
   | bl b=>
     have h:(bls? ds).map (b ::·)=some bs:=h
     cases e:bls? ds with
     | none=>rw [e] at h;cases h
     | some cs=>
       rw[e] at h
       cases h
       rw[Rep.bl.mp r1,vp r2 e]
       rfl
   | _=>cases h
theorem yn:∀bs:List Bool,bls? (bs.map D.bl)=some bs
 | []=>rfl
 | b ::bs=>by show(bls? (bs.map D.bl)).map (b ::·)=_;rw [yn bs];rfl
theorem qQ:∀{bs:List Bool} {us:List Value},Vals (bs.map V.bl) us→us=bs.map Value.bool
 | [],us,h=>by cases h;rfl
 | b ::bs,us,h=>by
   cases h with
   | cons r t=>rw [qQ t,show _=Value.bool b from r];rfl
theorem range_all(bs:List Bool):(List.range bs.length).all (fun i=>bs.getD i false)=bs.all id:=by
 rw[Bool.eq_iff_iff]
 simp only[List.all_eq_true,List.mem_range,id]
 constructor
 ·intro h b hb
  obtain⟨i,hi,rfl⟩:=List.getElem_of_mem hb
  have:=h i hi
  rw[List.getD_eq_getElem?_getD,List.getElem?_eq_getElem hi] at this
  exact this
 ·intro h i hi
  rw[List.getD_eq_getElem?_getD,List.getElem?_eq_getElem hi]
  exact h _ (List.getElem_mem hi)
noncomputable def Fu:List D→R D
 | [.lst ds]=>(match bls? ds with | some bs=> .ok (.bl (bs.all id)) | none=> .no)
 | _=> .no
noncomputable def K0:List D→R D
 | [.lst ds]=>(match bls? ds with | some bs=> .ok (.bl (bs.any id)) | none=> .no)
 | _=> .no
theorem Ig{bs:List Bool}{i:Nat}{v:Value}(h:((bs.map Value.bool).toArray)[i]? =some v):v= .bool (bs.getD i false):=by
 rw[List.getElem?_toArray,List.getElem?_map] at h
 rw[List.getD_eq_getElem?_getD]
 cases e:bs[i]? with
 | none=>rw [e] at h;cases h
 | some b=>rw [e] at h;cases h;rfl
theorem G9(hc:X.calm=true):cT X (.builtin "all") Fu:=by
 intro pins s σ H B ds d xs us I hb rx rs hg
 unfold Fu at hg
 split at hg
 ·split at hg
  ·rename_i es bs e
   cases hg
   obtain⟨x,rfl,r⟩:=rs.one
   obtain⟨a,ys,rfl,l,r⟩:=Rep.lst.mp r
   obtain⟨u,rfl,ru⟩:=vals1 rx
   cases ru
   obtain⟨its,n,rv,e1,hz⟩:=I.Ef l
   rw[vp r e] at rv
   obtain rfl:=qQ rv
   have hl:s.heap.IsList a (bs.map Value.bool).toArray:=⟨_,e1,rfl,n,rfl⟩
   have hlt:a < s.heap.objs.size:=Heap.lt_size e1
   refine call_all_walk (wpAny_pyIter_list hl ?_)
   refine⟨_,_,_,_,_,_,fun i=>bs.getD i false,rfl,Walks.list (A:=X.A.in1) (I.ok.hd hc) _ a (Nat.ne_of_lt hlt) _,⟨⟨_,Heap.get?_push_size _ rfl,rfl,rfl⟩,hl.push _⟩,?_,fun h' tk hk=>?_⟩
   ·intro i v s Q E hP hQ
    rw[Ig hP]
    exact wpAny_truthy_bool hQ
   ·refine⟨.bl (bs.all id),H,I.kept (old_kept hk),?_,aY.refl H,Rep.bl.mpr rfl⟩
    show Value.bool _=Value.bool _
    rw[←range_all]
    simp
  ·cases hg
 ·cases hg
end
end L2
end
section
set_option maxRecDepth 100000
set_option maxHeartbeats 4000000
namespace L2
open PySem PySem.Spec PyProof.Rows
section
variable {X:Cx}
noncomputable def L8:FS:=fun _=> .no
noncomputable def Kd(f:FD):FS:=fun δ=>(f δ).bind fun _=> .ok (.nx δ)
end
end L2
namespace L3
open PySem PySem.Spec PyProof.Rows L2
section
variable {X:Cx} {cl:Nat→Addr}
noncomputable def L0:FZ:=fun _ _=> .no
noncomputable def KC(f:aw→R (List D)):FX:=fun δ S=>(R3.of (f (bV S δ)) S).bind fun ds S=>R3.bZ (jj ds) (.ok (.loc S.length) (S++[.lst ds]))
noncomputable def Lp(i:Nat)(f:FX):FZ:=fun δ S=>match gy δ i with
 | none=> .no
 | some k=>match cK S k with
   | none=> .no
   | some _=>(f δ S).bind fun v S1=>match v with
     | .d (.lst es)=>(match cK S1 k with
       | some ds=>R3.bZ (decide (ds.length+es.length≤sizeLine)) (.ok (.nx δ) (S1.set k (.lst (ds++es))))
       | none=> .no)
     | _=> .no
end
end L3
end
section
set_option maxRecDepth 100000
set_option maxHeartbeats 4000000
namespace L2
open PySem PySem.Spec PyProof.Rows
section
variable {X:Cx}
theorem AE{prog:Program}{w:World}{A:Around}{E:Value→Shared→Prop}{s:Shared}{t b:Addr}{vs ws:List Value}{Q:Value→Shared→Prop}(ht:IsTup s.heap t vs.toArray)(hb:IsTup s.heap b ws.toArray)
 (h0:vs=[]→Q (.ref b) s) (h1:vs≠[]→ws=[]→Q (.ref t) s) (h2:vs≠[]→ws≠[]→Q (.ref s.heap.objs.size) {s with heap:=s.heap.push {cls:= .type "tuple",data:= .seq (vs++ws).toArray}})
 (hsz:vs.length+ws.length≤sizeLine):wpAny (model prog w) A (binaryOp .Add (.ref t) (.ref b)) Q E s:=by
 by_cases hv:vs=[]
 ·obtain⟨⟨cls,dd,data,sl⟩,ho,hc,n,hd⟩:=id ht;obtain⟨⟨cls2,dd2,data2,sl2⟩,ho2,hc2,n2,hd2⟩:=id hb
  simp only at hc hd hc2 hd2;subst hc hd hc2 hd2
  exact concat_meets ⟨_,ho,rfl⟩ ⟨_,ho2,rfl⟩ noFill_tuple_add seq_tuple_add PySem.F.slot_tuple_add PySem.F.entry_tuple_add (PySem.F.args_tuple_add_2 _ _) (tuple_addW0 t b vs.toArray ws.toArray n n2 dd dd2 sl sl2 (by simp [hv])) ⟨ho,ho2,h0 hv⟩
 ·exact HT.CY ht hb hv (h1 hv) (h2 hv) hsz
noncomputable def lU(d e:D):R D:=match d,e with
 | .tup a, .tup b=>R.bZ (decide (a.length+b.length≤sizeLine)) (.ok (.tup (a++b)))
 | d,e=>dH d e
theorem tp.fresh{K:PySem.W.Frag}{B:List Addr}{H:Hp}{p:Addr}{xs:List V}(hb:∀a∈B,∃o,H a=some o)(hp:H p=none):tp K B (upd H p (.tup xs)) p xs:= .inl ⟨fun ha=>(by obtain⟨o,ho⟩:=hb p ha;rw [hp] at ho;cases ho), .inl a_⟩
theorem qg:j0 X (binaryOp .Add) lU:=by
 intro pins s σ H B da db d x y v u I hb rx ry ra rb hg
 by_cases ht:∃a b,da= .tup a∧db= .tup b
 ·obtain⟨a,b,rfl,rfl⟩:=ht
  have hg:R.bZ (decide (a.length+b.length≤sizeLine)) (.ok (.tup (a++b)))= .ok d:=hg
  obtain⟨h1,h2⟩:=R.bo hg
  cases h2
  have h1:=of_decide_eq_true h1
  have ra':=ra
  have rb':=rb
  obtain⟨a1,xs1,rfl,l1,r1⟩:=Rep.tup.mp ra
  obtain⟨a2,xs2,rfl,l2,r2⟩:=Rep.tup.mp rb
  cases rx
  cases ry
  obtain⟨its,rv1,p1,_⟩:=I.tuple l1.sq
  obtain⟨its2,rv2,p2,_⟩:=I.tuple l2.sq
  have e1:=rv1.length
  have e2:=rv2.length
  have e3:=r1.length
  have e4:=r2.length
  refine AE p1 p2 (fun z=>⟨.ref a2,H,I,rfl,aY.refl H,?_⟩) (fun _ z=>⟨.ref a1,H,I,rfl,aY.refl H,?_⟩) (fun _ _=>?_) (by omega)
  ·obtain rfl:a=[]:=List.eq_nil_of_length_eq_zero (by rw[e3,e1,z];rfl)
   exact rb'
  ·obtain rfl:b=[]:=List.eq_nil_of_length_eq_zero (by rw[e4,e2,z];rfl)
   rw[List.append_nil];exact ra'
  ·have hp:H s.heap.objs.size=none:=I.hok.fresh (Nat.le_refl _)
   refine⟨.ref s.heap.objs.size,_,I.laid (t':=s.toks) (o:= .tup (xs1++xs2)) (fun b ob q=>Heap.get?_push_of_some _ q) (Nat.le_refl _) ⟨by rw[List.length_append];omega,_,rv1.append rv2,IsTup.new _ _⟩,rfl,bh hp,Rep.tup.mpr ⟨_,_,rfl,tp.fresh hb hp,(r1.append r2).same (bh hp)⟩⟩
 ·have hg:dH da db= .ok d:=by
   unfold lU at hg
   split at hg
   ·exact absurd ⟨_,_,rfl,rfl⟩ ht
   ·exact hg
  exact eu pins s σ H B da db d x y v u I hb rx ry ra rb hg
theorem yd.or{tg e:Expr}{F F1 F2:aw→R (List D)}(h1:yd X tg e F1)(h2:yd X tg e F2)(h:∀δ ds,F δ= .ok ds→F1 δ= .ok ds∨F2 δ= .ok ds):yd X tg e F:=
 ⟨fun pins s σ H R I ⟨Z,B,δ,ds,E,hf,q⟩=>(h δ ds hf).elim (fun z=>h1.1 pins s σ H R I ⟨Z,B,δ,ds,E,z,q⟩) fun z=>h2.1 pins s σ H R I ⟨Z,B,δ,ds,E,z,q⟩⟩
noncomputable def yq(f:FD):aw→R (List D):=fun δ=>(f δ).bind fun d=>match d with | .lst ds=> .ok (ft ds) | .tup ds=> .ok (ft ds) | _=> .no
theorem wR{elts:List Expr}{k:Nat}{tpos:Pos}{a:Expr}{f:FD}{p pos:Pos}(h:QD X a f)(hg:Gl X "enumerate")(hm:X.mg "enumerate"=none)(hs:starEach [a] X.env=[(false,eval a X.env)]:=by rfl):yd X (.Tuple elts k tpos) (.Call (.Name "enumerate" p) [a] [] pos) (yq f):=
 yd.or (F1:=k8 f) (F2:=t8 f) ⟨uN h.1 hg hm hs⟩ (vX h hg hm hs) fun δ ds hf=>by
  obtain⟨d,h1,h2⟩:=R.ak hf
  cases d with
  | lst es=>cases h2;exact .inl (by unfold k8;rw [h1];rfl)
  | tup es=>cases h2;exact .inr (by unfold t8;rw [h1];rfl)
  | _=>cases h2
noncomputable def Lg(K:PySem.W.Frag)(a:Addr)(n:Nat):It:=
 ⟨fun i H=>∃xs x,mw K H a xs∧xs.length=n∧i < n∧xs[n - 1 - i]? =some x,fun i H v H'=>H'=H∧∀xs,mw K H a xs→xs[n - 1 - i]? =some v,fun i H=>(∃xs,mw K H a xs)∧i=n⟩
theorem Aa{P:Program}{w:World}{K:PySem.W.Frag}{tg:Expr}(a it:Addr)(n:Nat):Turn P w K tg (Lg K a n) [it] it (fun i h=>h.IsRevIter it a ((n:Int) - 1 - (i:Int))) where
 mem:=by simp
 obj:=fun i h st b hb=>by
  have e:b=it:=by simpa using hb
  subst e
  obtain⟨o,e,c,d⟩:=st
  exact⟨o,e,fun v z=>by rw[d] at z;cases z⟩
 keep:=fun i h h' st k=>st.at fun o e=>k it (by simp) o e
 item:=by
  intro X hP hw hK hc i pins s σ H E I hf st hg
  subst hP hw hK
  obtain⟨xs,x,hq,hn,hi,hx⟩:=hg
  obtain⟨its,rv,p,hz⟩:=I.list hq
  obtain⟨u,hu,ru⟩:=rv.get hx
  obtain⟨f0,f1,f2,f3,f4,f5⟩:=hf it (by simp)
  have e0:(n:Int) - 1 - (i:Int)=((n - 1 - i:Nat):Int):=by omega
  rw[e0] at st
  refine wpAny_pyNext_rev_item st p.isList (x:=u) (by simpa using hu) fun h' st' sb=>?_
  have I1:Inv X pins σ H {s with heap:=h'}:=I.turned (t':=s.toks) (fun b o hb e=>(sb.2 b hb).trans e) f0 f1 f3 f4 f5
  have st2:h'.IsRevIter it a ((n:Int) - 1 - ((i+1:Nat):Int)):=by
   rw[show((n - 1 - i:Nat):Int) - 1=(n:Int) - 1 - ((i+1:Nat):Int) by omega] at st';exact st'
  obtain⟨o,e,c,d⟩:=id st2
  exact⟨u,rfl,xG (s:={s with heap:=h'}) e c d (by decide) ⟨x,H,I1,ru,⟨rfl,fun ys hy=>by rw[I.qa hy hq];exact hx⟩,st2,fun b hb=>(hf b hb).1⟩⟩
 done:=by
  intro X hP hw hK hc i pins s σ H E I hf st hg
  subst hP hw hK
  obtain⟨_,rfl⟩:=hg
  obtain⟨f0,f1,f2,f3,f4,f5⟩:=hf it (by simp)
  rw[show(i:Int) - 1 - (i:Int)= -1 by omega] at st
  exact wpAny_pyNext_rev_end (I.ok.hd hc) st fun h' eb=>⟨rfl,I.turned (t':=s.toks) (fun b o hb e=>eb b o hb e) f0 f1 f3 f4 f5⟩
 self:=fun _ _ _ _ _ st h=>wpAny_pyIter_revIter st h
noncomputable def En(f:FD):aw→R (List D):=fun δ=>(f δ).bind fun d=>match d with | .lst ds=> .ok ds.reverse | _=> .no
theorem Cd{tg a:Expr}{f:FD}{p pos:Pos}(h:QD X a f)(hg:Gl X "reversed")(hm:X.mg "reversed"=none)(hs:starEach [a] X.env=[(false,eval a X.env)]:=by rfl):yd X tg (.Call (.Name "reversed" p) [a] [] pos) (En f):=by
 refine⟨?_⟩
 intro pins s σ H RR I ⟨Z,B,δ,ds,E,hf,q⟩
 obtain⟨d,h1,h2⟩:=R.ak hf
 have hA:=fJ h.1 iX hs pos pins s σ H (fun vs H1=>aY H H1∧∃v,vs=[v]∧Rep X.K B H1 d v) I ⟨Z,B,δ,d,E,h1,fun v H1 s1 r1=>⟨s1,v,rfl,r1⟩⟩
 refine Call_ (l7 I hg hm boot_reversed (PyProof.Rows.callWith_type1 (dQ hA fun us s1 ⟨vs,H1,I1,r1,ss,v,ev,rr⟩=>?_) hs rfl))
 subst ev
 obtain⟨u,rfl,ru⟩:=vals1 r1
 cases d with
 | lst es=>
   cases h2
   obtain⟨b,xs,rfl,l,rs⟩:=Rep.lst.mp rr
   cases ru
   obtain⟨its,rv,pl,hz⟩:=I1.list l.sq
   have e1:=rv.length
   have e2:=rs.length
   refine call_reversed_list pl.isList (wpAny_pyIter_revIter (i:=(its.toArray.size:Int) - 1) ⟨_,Heap.get?_push_size _ rfl,rfl,rfl⟩ ?_)
   refine⟨s1.heap.objs.size,[s1.heap.objs.size],_,_,H1,rfl,I1.kept (t':=s1.toks) fun b o e=>Heap.get?_push_of_some _ e,Aa b _ es.length,?_,fun c hc=>?_,q _ H1 ss fun B' H' pr=>?_⟩
   ·refine⟨_,Heap.get?_push_size _ rfl,rfl,?_⟩
    show Data.fields #[.ref b,rawInt ((its.toArray.size:Int) - 1)]=Data.fields #[.ref b,rawInt ((es.length:Int) - 1 - ((0:Nat):Int))]
    rw[List.size_toArray,←e1,←e2,show((es.length:Nat):Int) - 1 - ((0:Nat):Int)=(es.length:Int) - 1 by omega]
   ·have e:c=s1.heap.objs.size:=by simpa using hc
    subst e
    exact I1.tW (Nat.le_refl _) (I1.hok.fresh (Nat.le_refl _))
   ·have l':qV X.K B' H' b xs:=l.br pr
    have rs':=rs.br pr
    refine⟨fun i d hd=>?_,⟨xs,l'.sq⟩,by rw[List.length_reverse]⟩
    have hi:i < es.length:=by have:=(List.getElem?_eq_some_iff.mp hd).1;rwa [List.length_reverse] at this
    rw[List.getElem?_reverse hi] at hd
    obtain⟨x,hx,rx⟩:=rs'.get hd
    refine⟨⟨xs,x,l'.sq,e2.symm,hi,hx⟩,fun v H'' yl hB'=>?_⟩
    obtain⟨rfl,hy⟩:=yl
    have hy2:=hy xs l'.sq
    rw[hx] at hy2
    cases hy2
    exact⟨aY.refl _,rx⟩
 | _=>cases h2
noncomputable def t9(K:PySem.W.Frag)(C:Addr)(m qual:Str)(st:Stmt):Prop:=∃f fd,xU K m qual st f fd∧Meth K C m f
noncomputable def EO(K:PySem.W.Frag)(C:Addr)(m qual:Str)(st:Stmt):Prop:=∃f fd,xU K m qual st f fd∧Mk K C f
end
end L2
namespace L3
open PySem PySem.Spec PyProof.Rows L2
section
variable {X:Cx} {cl:Nat→Addr}
theorem g_.p{P:Program}{w:World}{K:PySem.W.Frag}{mg:Str→Option Value}{base:Heap}{cl:Nat→Addr}{k c:Nat}{m:Str}{n:Nat}{N:List Str}{F:FZ}(C:g_ P w K mg base cl k c m n (mz N F)):g_ P w K mg base cl k c m n (nA N F):=
 let⟨f,fd,ps,c1,c2,F,h⟩:=C;⟨f,fd,ps,c1,c2,F.imp fun _ _ _ _ h=>wQ h,h⟩
end
end L3
end
section
set_option maxRecDepth 100000
set_option maxHeartbeats 4000000
namespace L2
open PySem PySem.Spec PyProof.Rows
section
variable {X:Cx}
noncomputable def KY(f:FD):aw→R (List D):=fun δ=>(f δ).bind fun d=>match d with | .int j=>R.bZ (decide (-(2 ^ 62)≤j∧j < 16777216)) (.ok (b_ 0 j.toNat)) | _=> .no
noncomputable def LM(f:FD):FD:=fun δ=>(f δ).bind fun d=>match d with | .lst ds=> .ok (.lst ds.reverse) | _=> .no
end
end L2
end
section
set_option maxRecDepth 100000
set_option maxHeartbeats 4000000
namespace L2
open PySem PySem.Spec PyProof.Rows
section
variable {X:Cx}
noncomputable def Lh(K:PySem.W.Frag)(n:Nat)(t:A8):TG:=fun v σ H Q=>∃a xs,v= .ref a∧mw K H a xs∧xs.length=n∧t xs σ H Q
end
end L2
namespace L3
open PySem PySem.Spec PyProof.Rows L2
section
variable {X:Cx} {cl:Nat→Addr}
noncomputable def L1(n:Nat)(t:Dg):FG:=fun d δ=>match d with
 | .d (.lst ds)=>if ds.length=n then t (ds.map .d) δ else none
 | .lst vs=>if vs.length=n then t vs δ else none
 | _=>none
noncomputable def LR(f g:FX):FA:=fun δ S=>(ay f (ay g bW) δ S).bind fun vs S1=>match vs with
 | [.d d, .d e]=>(match seqD? d,seqD? e with | some ds,some es=> .ok ((HC ds es).map .d) S1 | _,_=> .no)
 | _=> .no
noncomputable def qZ(S:aS):Prop:=∀o∈S,o5 S.length o=true
theorem Flat.Kw{S:aS}(h:Flat S):qZ S:=fun o ho=>h o ho _
theorem Hs{N:List Str}{F:FZ}{vs:List V3}{S:aS}{QV:V3→aS→Prop}(h:W3 (mz N F vs S) fun v S1=>(∀o∈S1.take S.length,o5 S.length o=true)∧fL S.length v=true∧∃d,res S1 v=some d∧QV (.d d) (S1.take S.length)):W3 (nA N F vs S) QV:=
 W3.bind (h.mono fun v S1 ⟨hl,hg,d,e,q⟩=>by
  rw[e]
  exact W3.wh (by rw[List.all_eq_true.mpr hl,hg];rfl) (W3.ok q))
theorem oP{N:List Str}{F:FZ}{vs:List V3}{S:aS}{QV:V3→aS→Prop}(hS:qZ S)(h:W3 (mz N F vs S) fun v S1=>fL S.length v=true∧(∃T,S1=S++T)∧∃d,res S1 v=some d∧QV (.d d) S):W3 (nA N F vs S) QV:=
 Hs (h.mono fun v S1 ⟨hg,⟨T,e1⟩,d,e,q⟩=>by
  subst e1
  rw[List.take_append_of_le_length (Nat.le_refl _),List.take_length]
  exact⟨hS,hg,d,e,q⟩)
end
end L3
end
section
set_option maxRecDepth 100000
set_option maxHeartbeats 4000000
namespace L2
open PySem PySem.Spec PyProof.Rows
section
variable {X:Cx}
noncomputable def ois?:List D→Option (List (Option Int))
 | []=>some []
 | .int i ::ds=>(ois? ds).map (some i ::·)
 | .cI ::ds=>(ois? ds).map (none ::·)
 | _ ::_=>none
noncomputable def JQ:Option Int→V | some i=> .int i | none=> .cI
theorem mX{K:PySem.W.Frag}{B:List Addr}{H:Hp}:∀{ds:List D} {xs:List V} {ss:List (Option Int)},aH K B H ds xs→ois? ds=some ss→xs=ss.map JQ
 | [],xs,ss,r,h=>by unfold aH at r;subst r;cases h;rfl
 | d ::ds,xs,ss,r,h=>by
   obtain⟨x,r',rfl,r1,r2⟩:=r.cu
   cases d with
   | int z=>
     unfold ois? at h
     cases e:ois? ds with
     | none=>rw [e] at h;cases h
     | some tt=>
       rw[e] at h
       cases h
       rw[Rep.int.mp r1,mX r2 e]
       rfl
   | cI=>
     unfold ois? at h
     cases e:ois? ds with
     | none=>rw [e] at h;cases h
     | some tt=>
       rw[e] at h
       cases h
       rw[Rep.cI.mp r1,mX r2 e]
       rfl
   | _=>cases h
noncomputable def Jz(d e:D):R Bool:=match d,e with
 | .cI, .lst ds=>(match ois? ds with | some ss=> .ok (ss.any (·.isNone)) | none=> .no)
 | _,_=> .no
noncomputable def Df(d e:D):R D:=(Jz d e).bind fun b=> .ok (.bl b)
theorem xy:∀ss:List (Option Int),A0 .cI (ss.map JQ)=ss.any (·.isNone)
 | []=>rfl
 | y ::ss=>by
   unfold A0
   rw[List.map_cons,List.any_cons,List.any_cons]
   have ih:=xy ss
   unfold A0 at ih
   rw[ih]
   cases y <;> rfl
theorem BL(ss:List (Option Int)):(ss.map JQ).all jW=true:=by
 rw[List.all_map,List.all_eq_true]
 intro x _
 cases x <;> rfl
theorem Hf:j0 X (compareOp .In) Df:=by
 intro pins s σ H B da db d x y v u I hb rx ry ra rb hg'
 obtain⟨b,hi,h2⟩:=R.ak hg'
 cases h2
 unfold Jz at hi
 split at hi
 ·rename_i ds
  split at hi
  ·rename_i ss e
   cases hi
   obtain⟨a,xs,rfl,l,rs⟩:=Rep.lst.mp rb
   refine rK pins s σ H x _ v u _ I rx ry ⟨a,xs,rfl, .inl l.sq,by rw[Rep.cI.mp ra];rfl,by rw[mX rs e];exact BL _,aY.refl H,Rep.bl.mpr ?_⟩
   rw[mX rs e,Rep.cI.mp ra,xy];rfl
  ·cases hi
 ·cases hi
end
end L2
end
section
set_option maxRecDepth 100000
set_option maxHeartbeats 4000000
namespace L2
open PySem PySem.Spec PyProof.Rows
section
variable {X:Cx}
noncomputable def Jv(d:D)(ds:List D):R D:=match d,ds with
 | .lst es,[.int k]=>(match ints? es with | some ss=> .ok (.int (ss.count k:Nat)) | none=> .no)
 | _,_=> .no
end
end L2
end
section
set_option maxRecDepth 100000
set_option maxHeartbeats 4000000
namespace L2
open PySem PySem.Spec PyProof.Rows
section
variable {X:Cx}
noncomputable abbrev LG:D→D→R D:=ue (fun i j=>decide (0≤j∧j < 1000∧ -1000 < i∧i < 1000)) fun i j=>i*2 ^ j.toNat
noncomputable def Kn(d e:D):R D:=match d,e with | .bl a, .bl b=> .ok (.bl (a !=b)) | _,_=> .no
end
end L2
namespace L3
open PySem PySem.Spec PyProof.Rows L2
section
variable {X:Cx} {cl:Nat→Addr}
noncomputable def rC(fo f:FX):FZ:=fun δ S=>(fo δ S).bind fun o S0=>match o with
 | .loc k=>(match cK S0 k with
   | none=> .no
   | some _=>(f δ S0).bind fun v S1=>match v with
     | .d d=>(match cK S1 k with | some ds=>R3.bZ (decide (ds.length < sizeLine)) (.ok (.nx δ) (S1.set k (.lst (ds++[d])))) | none=> .no)
     | _=> .no)
 | _=> .no
theorem xK{o e:Expr}{fo f:FX}{apos cpos pos:Pos}(ho:PX X cl o fo)(he:PX X cl e f)
 (hs:starEach [e] X.env=(false,eval e X.env) ::starEach [] X.env:=by rfl) (hline:(apos.endLine==cpos.line)=true:=by rfl)
 (hfew:((backTo cpos (starEach [e] X.env)).all (fun x=>!x.1) && (backToKw cpos (keywordEach [] X.env)).all (fun x=>x.1.isSome)
   && decide (([e]:List Expr).length+([]:List Keyword).length+(if([]:List Keyword).isEmpty then 0 else 1) < 30))=true:=by rfl)
 (hsw:swapsWith (.Call (.Attribute o "append" apos) [e] [] cpos) none pos.line X.env=pure false:=by rfl)
 (hbase:attributeBase o "append" X.env (eval o X.env)=eval o X.env:=by rfl) :
 PZ X cl (.Expr (.Call (.Attribute o "append" apos) [e] [] cpos) pos) (rC fo f):=by
 refine⟨(sZ (yz (X:=X) PySem.F.plainAttrs_list PySem.F.slot_list_append PySem.F.type_list_append lz ho.1 (fJ he.1 iX hs) hbase hfew hline hs) hsw).imp fun D σ H ⟨ρ,S,δ,oo,S',E,hf,q⟩=>?_⟩
 unfold rC at hf
 obtain⟨vo,S0,g1,g2⟩:=R3.ak hf
 split at g2
 ·rename_i k
  split at g2
  ·cases g2
  ·rename_i ds0 h0
   obtain⟨v,S1,h1,h2⟩:=R3.ak g2
   split at h2
   ·rename_i d
    split at h2
    ·rename_i ds h3
     obtain⟨hl,h4⟩:=R3.bo h2
     cases h4
     refine⟨ρ,S,δ, .loc k,S0,E,g1,fun u ρ0 H0 p0 w0 r0=>?_⟩
     unfold bp at r0
     obtain⟨a,a1,rfl⟩:=r0
     obtain⟨xs0,x0,_⟩:=w0.ob k a _ a1 (dI h0)
     refine⟨.inl ⟨rfl,xs0,mw.of x0⟩,⟨ρ0,S0,δ, .d d,S1,E.to p0 w0,h1,fun y ρ1 H1 p1 w1 r1=>?_⟩⟩
     have b1:=p1.ext k a a1
     obtain⟨xs,x1,x2⟩:=w1.ob k a _ b1 (dI h3)
     refine⟨a,xs,y,rfl,rfl,x1,by rw[←x2.length];exact of_decide_eq_true hl,?_⟩
     unfold bp at r1
     obtain⟨w2,p2⟩:=w1.put (o:= .lst (ds++[d])) (u:= .lst (xs++[y])) b1 (w1.fz k a b1 (by rw[dI h3];intro h;cases h)) ⟨xs++[y],rfl,x2.append (aH.cons r1 aH.nil)⟩
     exact q σ ρ1 _ (p0.trans (p1.trans p2)) (E.to (p0.trans (p1.trans p2)) w2)
    ·cases h2
   ·cases h2
 ·cases g2
theorem A9{fo f:FX}{δ:DE}{S:aS}{k:Nat}{QO:Ou→aS→Prop}(h:W3 (fo δ S) fun o S0=>o= .loc k∧(∃ds,S0[k]? =some (.lst ds))∧W3 (f δ S0) fun v S1=>∃d ds,v= .d d∧S1[k]? =some (.lst ds)∧ds.length < sizeLine∧QO (.nx δ) (S1.set k (.lst (ds++[d])))):W3 (rC fo f δ S) QO:=by
 unfold rC
 refine W3.bind (h.mono fun o S0 ⟨e,⟨ds0,h0⟩,h⟩=>?_)
 subst e
 have e0:cK S0 k=some ds0:=by unfold cK;rw [h0]
 simp only[e0]
 refine W3.bind (h.mono fun v S1 ⟨d,ds,e1,e2',hl,q⟩=>?_)
 subst e1
 have e3:cK S1 k=some ds:=by unfold cK;rw [e2']
 simp only[e3]
 exact W3.wh (decide_eq_true hl) (W3.ok q)
noncomputable def Km(f:FX):FA:=fun δ S=>(ay f bW δ S).bind fun vs S1=>match vs with
 | [.d (.lst ds)]=> .ok ((ft ds).map .d) S1
 | _=> .no
end
end L3
end
section
set_option maxRecDepth 100000
set_option maxHeartbeats 4000000
namespace L2
open PySem PySem.Spec PyProof.Rows
section
variable {X:Cx}
theorem y4{g:List D→R D}{k j:Nat}{x:Str}{p pos:Pos}(C:Callee X.prog X.w X.K X.mg X.base k x 0 g)(hr:d8 j X.A)(hkj:k≤j)(hg:Gl X x)(hdb:(x==("__debug__":Str))=false:=by decide) :
 QD X (.Call (.Name x p) [] [] pos) (aA g aD):=by
 obtain⟨f,fd,ps,F,hm,hk,hb⟩:=C
 exact⟨(z_ F (hr.mono hkj) hg hm hk hb .nil pV hdb).imp fun σ H Q ⟨Z,B,δ,d,E,hf,q⟩=>by
  obtain⟨ds,h1,h2⟩:=R.ak hf
  cases h1
  show yD X.K 0 g ([]++[]) H Q E0
  exact⟨rfl,B,[],d,E.bs,aH.nil,h2,fun z H' s2 r2=>q z H' s2 r2⟩⟩
end
end L2
end
section
set_option maxRecDepth 100000
set_option maxHeartbeats 4000000
namespace L3
open PySem PySem.Spec PyProof.Rows L2
section
variable {cl:Nat→Addr}
theorem aF.data{K:PySem.W.Frag}{ρ:P3}{H:Hp}:∀{ds:List D} {xs:List V},aF K ρ H (ds.map .d) xs→aH K ρ.b H ds xs
 | [],xs,r=>by unfold List.map aF at r;subst r;exact aH.nil
 | d ::ds,xs,r=>by
   rw[List.map_cons] at r
   obtain⟨x,r',rfl,h1,h2⟩:=r.cu
   unfold bp at h1
   exact aH.cons h1 (aF.data h2)
noncomputable def tO(it:FA)(t:FG)(c:FB)(f:FX)(own:List Str)(kp:List Nat):FX:=fun δ S=>(it δ S).bind fun vs S1=>R3.bZ (decide (vs.length≤sizeLine)) ((jG t c f (eB own kp δ) vs S1).bind fun ys S2=>match jB ys with | some ds=> .ok (.loc S2.length) (S2++[.lst ds]) | none=> .no)
theorem Ba{K:PySem.W.Frag}{it:FA}{t:FG}{c:FB}{f:FX}{own:List Str}{kp:List Nat}{σ:L2.St}{H:Hp}{Q:VK}(h:tX K cl (tO it t c f own kp) σ H Q) :
 u7 (Ji K cl it) (gX K cl t) (CW K cl c) (tX K cl f) own kp σ H Q:=by
 obtain⟨ρ,S,δ,v,SF,E,hf,q⟩:=h
 obtain⟨es,S1,h1,h2⟩:=R3.ak hf
 obtain⟨hl,h3⟩:=R3.bo h2
 have hl:=of_decide_eq_true hl
 obtain⟨vs,S2,h4,h5⟩:=R3.ak h3
 cases eD:jB vs with
 | none=>rw [eD] at h5;cases h5
 | some dsN=>
   rw[eD] at h5
   cases h5
   refine⟨ρ,S,δ,es,S1,E,h1,fun J ρ1 H1 p1 w1 ir Dd hD=>?_⟩
   have nDz:Dd ∉ ρ1.b:=fun hb=>by obtain⟨o,ho⟩:=w1.bs Dd hb;rw [hD] at ho;cases ho
   have nDr:Dd ∉ ρ1.r:=fun hb=>by obtain⟨o,ho⟩:=w1.rs Dd hb;rw [hD] at ho;cases ho
   have toZ:∀{r' f':List Addr} {H':Hp},Pre ρ1 H1 ⟨r',ρ1.z,f'⟩ H'→PW ρ1 H1 ⟨r',Dd ::ρ1.z,f'⟩ H':=fun {r' f' H'} p=>⟨fun b o e nb=>⟨(p.br b o e nb).1,fun hb=>by
    rcases P3.cy.mp hb with z | z
    ·exact(p.br b o e nb).2 (P3.cy.mpr (.inl z))
    ·rcases List.mem_cons.mp z with y | y
     ·exact bO e hD y
     ·exact(p.br b o e nb).2 (P3.cy.mpr (.inr y))⟩,p.ext⟩
   have w0:SW K cl ⟨ρ1.r,Dd ::ρ1.z,ρ1.f⟩ (upd H1 Dd (.lst [])) S1:=by
    have s0:aY H1 (upd H1 Dd (.lst [])):=bh hD
    have ws:=w1.same s0
    refine⟨ws.len,ws.nd,fun k a o hk ho=>?_,fun b hb=>?_,ws.fz,ws.ff,ws.fi⟩
    ·have r:=w1.ob k a o hk ho
     obtain⟨u,hu⟩:=r.some
     rw[s0 a u hu,←hu]
     exact r.pw (toZ (Pre.same s0))
    ·rcases List.mem_cons.mp hb with y | y
     ·subst y;exact⟨⟨_,a_⟩,nDr⟩
     ·exact ws.zb b y
   refine⟨fun i m ys H'=>m=es.length - i∧i≤es.length∧ys.length≤i∧H' Dd=some (.lst ys)∧∃r' f' S' done rest,Pre ρ1 H1 ⟨r',ρ1.z,f'⟩ H'∧SW K cl ⟨r',Dd ::ρ1.z,f'⟩ H' S'∧vs=done++rest∧aF K ⟨r',Dd ::ρ1.z,f'⟩ H' done ys∧jG t c f (eB own kp δ) (es.drop i) S'= .ok rest S2,
    ⟨es.length,rfl,Nat.zero_le _,Nat.le_refl _,a_,ρ1.r,ρ1.f,S1,[],vs,Pre.same (bh hD),w0,rfl,aF.nil,by simpa using h4⟩,?_⟩
   rintro i m ys H' ⟨rfl,hi,hy,hDl,r',f',S',done,rest,pv,w',rfl,rd,hc⟩
   obtain⟨go,stop⟩:=ir ⟨r',Dd ::ρ1.z,f'⟩ H' (toZ pv) w'.bs
   have unZ:∀{ρ4:P3} {H4:Hp},Pre ⟨r',Dd ::ρ1.z,f'⟩ H' ρ4 H4→Pre ρ1 H1 ⟨ρ4.r,ρ1.z,ρ4.f⟩ H4:=fun {ρ4 H4} p4=>⟨fun b o e nb=>by
    obtain⟨e1,n1⟩:=(toZ pv).br b o e nb
    obtain⟨e2',n2⟩:=p4.br b o e1 n1
    refine⟨e2',fun hb=>n2 ?_⟩
    rcases P3.cy.mp hb with z | z
    ·exact P3.cy.mpr (.inl z)
    ·exact P3.cy.mpr (.inr (by rw[p4.zz];exact List.mem_cons_of_mem _ z)),rfl,fun b o hb h=>p4.zs b o (List.mem_cons_of_mem _ hb) (pv.zs b o hb h),fun k a h=>p4.ext k a (pv.ext k a h)⟩
   by_cases hlt:i < es.length
   ·have hd:es[i]? =some es[i]:=List.getElem?_eq_getElem hlt
    have hdrop:es.drop i=es[i] ::es.drop (i+1):=List.drop_eq_getElem_cons hlt
    rw[hdrop] at hc
    unfold jG at hc
    split at hc
    ·cases hc
    ·rename_i δ1 h6
     obtain⟨b,T1,h7,h8⟩:=R3.ak hc
     obtain⟨g1,g2⟩:=go i _ hd
     refine .inr ⟨g1,fun x H2 y=>?_⟩
     obtain⟨sy,ry⟩:=g2 x H2 y
     have Ec:eV K cl ⟨r',Dd ::ρ1.z,f'⟩ H2 S' (dj own kp σ) (eB own kp δ):=yk E (p1.pw.trans ((toZ pv).trans (Pre.same sy).pw)) (w'.same sy)
     refine⟨⟨r',Dd ::ρ1.z,f'⟩,S',eB own kp δ,es[i],δ1,Ec,ry,h6,fun σ3 H3 s3 E3=>⟨⟨r',Dd ::ρ1.z,f'⟩,S',δ1,b,T1,E3,h7,fun ρ4 H4 p4 w4=>?_⟩⟩
     have pv4:Pre ⟨r',Dd ::ρ1.z,f'⟩ H' ρ4 H4:=(Pre.same (sy.trans s3)).trans p4
     cases b with
     | true=>
       rw[if_pos rfl] at h8
       refine yS ?_
       obtain⟨yv,T2,h9,h10⟩:=R3.ak h8
       obtain⟨rs,T3,h11,h12⟩:=R3.ak h10
       cases h12
       refine⟨ρ4,T1,δ1,yv,T2,E3.to p4 w4,h9,fun v5 ρ5 H5 p5 w5 r5=>?_⟩
       have pv5:Pre ⟨r',Dd ::ρ1.z,f'⟩ H' ρ5 H5:=pv4.trans p5
       have hD5:H5 Dd=some (.lst ys):=pv5.zs Dd _ List.mem_cons_self hDl
       have u5:=unZ pv5
       obtain⟨r5',z5,f5⟩:=ρ5
       have ez:z5=Dd ::ρ1.z:=pv5.zz
       subst ez
       have nr:Dd ∉ r5':=(w5.zb Dd List.mem_cons_self).2
       have pw:PW ⟨r5',Dd ::ρ1.z,f5⟩ H5 ⟨r5',Dd ::ρ1.z,f5⟩ (upd H5 Dd (.lst (ys++[v5]))):=⟨fun b o e nb=>⟨by rw[bg (fun(z:b=Dd)=>nb (by rw[z];exact P3.cy.mpr (.inr List.mem_cons_self)))];exact e,nb⟩,fun _ _ h=>h⟩
       refine⟨hD5,by omega,es.length - (i+1),by omega,rfl,hlt,by rw[List.length_append,List.length_singleton];omega,a_,r5',f5,T2,done++[yv],rs,?_,?_,by simp,aF.append ((rd.pre pv5).pw pw) (aF.cons (r5.pw pw) aF.nil),h11⟩
       ·refine⟨fun b o e nb=>⟨by rw[bg (bO e hD)];exact(u5.br b o e nb).1,(u5.br b o e nb).2⟩,rfl,fun b o hb h=>?_,u5.ext⟩
        rw[bg (bO h hD)]
        exact u5.zs b o hb h
       ·refine⟨w5.len,w5.nd,fun k a o hk ho=>?_,fun b hb=>?_,w5.fz,fun b hb=>?_,w5.fi⟩
        ·have ne:a≠Dd:=fun z=>nr (by rw[←z];exact List.mem_of_getElem? hk)
         rw[bg ne]
         exact(w5.ob k a o hk ho).pw pw
        ·obtain⟨⟨o,ho⟩,n⟩:=w5.zb b hb
         refine⟨?_,n⟩
         by_cases z:b=Dd
         ·subst z;exact⟨_,a_⟩
         ·rw[bg z];exact⟨o,ho⟩
        ·obtain⟨o,ho⟩:=w5.ff b hb
         by_cases z:b=Dd
         ·subst z;exact⟨_,a_⟩
         ·rw[bg z];exact⟨o,ho⟩
     | false=>
       rw[if_neg (by decide)] at h8
       refine zw ?_
       have hD4:H4 Dd=some (.lst ys):=pv4.zs Dd _ List.mem_cons_self hDl
       have u4:=unZ pv4
       obtain⟨r4',z4,f4⟩:=ρ4
       have ez:z4=Dd ::ρ1.z:=pv4.zz
       subst ez
       exact⟨es.length - (i+1),by omega,rfl,hlt,by omega,hD4,r4',f4,T1,done,rest,u4,w4,rfl,rd.pre pv4,h8⟩
   ·have e:i=es.length:=by omega
    subst e
    rw[List.drop_length] at hc
    cases hc
    rw[List.append_nil] at eD
    have hdone:=gA eD
    subst hdone
    refine .inl ⟨stop,?_⟩
    have nDr':Dd ∉ r':=(w'.zb Dd List.mem_cons_self).2
    have hfi:∀a,a≠Dd→(a∈f'.filter (fun z=>decide (z≠Dd))↔a∈f'):=fun a ha=>by rw[List.mem_filter];exact⟨fun z=>z.1,fun z=>⟨z,decide_eq_true ha⟩⟩
    have hnf:Dd ∉ f'.filter (fun z=>decide (z≠Dd)):=fun h=>absurd rfl (of_decide_eq_true (List.mem_filter.mp h).2)
    have inb:∀b,b∈(P3.mk (r'++[Dd]) ρ1.z (f'.filter fun z=>decide (z≠Dd))).b→b∈(P3.mk r' (Dd ::ρ1.z) f').b:=fun b hb=>by
     rcases P3.cy.mp hb with⟨z,n⟩ | z
     ·rcases List.mem_append.mp z with y | y
      ·have hne:b≠Dd:=fun z=>nDr' (z▸y)
       exact P3.cy.mpr (.inl ⟨y,fun h=>n ((hfi b hne).mpr h)⟩)
      ·rw[List.mem_singleton.mp y];exact P3.cy.mpr (.inr List.mem_cons_self)
     ·exact P3.cy.mpr (.inr (List.mem_cons_of_mem _ z))
    have back:PW ⟨r',Dd ::ρ1.z,f'⟩ H' ⟨r'++[Dd],ρ1.z,f'.filter fun z=>decide (z≠Dd)⟩ H':=⟨fun b o e nb=>⟨e,fun hb=>nb (inb b hb)⟩,fun k a h=>by
     show(r'++[Dd])[k]? =_
     rw[List.getElem?_append_left (List.getElem?_eq_some_iff.mp h).1];exact h⟩
    have last:∀(i:Nat) (b:Addr),(r'++[Dd])[i]? =some b→(i < r'.length∧r'[i]? =some b)∨(i=r'.length∧b=Dd):=fun i b h=>by
     by_cases q:i < r'.length
     ·rw[List.getElem?_append_left q] at h;exact .inl ⟨q,h⟩
     ·rw[List.getElem?_append_right (by omega)] at h
      have h0:i - r'.length=0:=by
       have:=(List.getElem?_eq_some_iff.mp h).1
       simp at this;omega
      rw[h0] at h
      cases h
      exact .inr ⟨by omega,rfl⟩
    have wlen:r'.length=List.length _:=w'.len
    have lastS:∀(T:aS),r'.length=T.length→(T++[SO.lst dsN])[r'.length]? =some (.lst dsN):=fun T h=>by rw[h,List.getElem?_append_right (Nat.le_refl _),Nat.sub_self];rfl
    refine q _ ⟨r'++[Dd],ρ1.z,f'.filter fun z=>decide (z≠Dd)⟩ H' (p1.trans ⟨fun b o e nb=>⟨(pv.br b o e nb).1,fun hb=>?_⟩,rfl,pv.zs,fun k a h=>back.ext k a (pv.ext k a h)⟩) ⟨?_,fun i j b hi hj=>?_,fun k b u hk hu=>?_,fun b hb=>?_,fun k b hk hu=>?_,fun b hb=>?_,fun k b hk hu=>?_⟩ ?_
    ·rcases P3.cy.mp (inb b hb) with z | z
     ·exact(pv.br b o e nb).2 (P3.cy.mpr (.inl z))
     ·rcases List.mem_cons.mp z with y | y
      ·exact bO e hD y
      ·exact(pv.br b o e nb).2 (P3.cy.mpr (.inr y))
    ·show(r'++[Dd]).length=_
     rw[List.length_append,List.length_append,wlen];rfl
    ·rcases last i b hi with⟨q1,q2⟩ | ⟨q1,rfl⟩
     ·rcases last j b hj with⟨z1,z2⟩ | ⟨z1,rfl⟩
      ·exact w'.nd i j b q2 z2
      ·exact absurd (List.mem_of_getElem? q2) nDr'
     ·rcases last j b hj with⟨z1,z2⟩ | ⟨z1,z3⟩
      ·exact absurd (List.mem_of_getElem? z2) nDr'
      ·omega
    ·rcases last k b hk with⟨q1,q2⟩ | ⟨q1,rfl⟩
     ·rw[List.getElem?_append_left (by rw[←wlen];exact q1)] at hu
      exact(w'.ob k b u q2 hu).pw back
     ·subst q1
      rw[lastS _ wlen] at hu
      cases hu
      exact⟨ys,hDl,(rd.pw back).data⟩
    ·obtain⟨z1,z2⟩:=w'.zb b (List.mem_cons_of_mem _ hb)
     refine⟨z1,fun h=>?_⟩
     rcases List.mem_append.mp h with y | y
     ·exact z2 y
     ·rw[List.mem_singleton.mp y] at hb
      exact nDz (P3.cy.mpr (.inr hb))
    ·rcases last k b hk with⟨q1,q2⟩ | ⟨q1,rfl⟩
     ·have hne:b≠Dd:=fun z=>nDr' (z▸List.mem_of_getElem? q2)
      rw[List.getElem?_append_left (by rw[←wlen];exact q1)] at hu
      exact fun h=>w'.fz k b q2 hu ((hfi b hne).mp h)
     ·exact hnf
    ·exact w'.ff b (List.mem_filter.mp hb).1
    ·rcases last k b hk with⟨q1,q2⟩ | ⟨q1,rfl⟩
     ·have hne:b≠Dd:=fun z=>nDr' (z▸List.mem_of_getElem? q2)
      rw[List.getElem?_append_left (by rw[←wlen];exact q1)] at hu
      exact(hfi b hne).mpr (w'.fi k b q2 hu)
     ·subst q1
      rw[lastS _ wlen] at hu
      cases hu
    ·unfold bp
     refine⟨Dd,?_,rfl⟩
     show(r'++[Dd])[_]? =_
     rw[←wlen,List.getElem?_append_right (Nat.le_refl _),Nat.sub_self];rfl
end
section
variable {X:Cx} {cl:Nat→Addr}
theorem BE{scope:Scope}{own:List Str}{kp:List Nat}{kn:List Str}{tg iter elt:Expr}{ifs:List Expr}{it:FA}{t:FG}{c:FB}{f:FX}{pos:Pos}(hc:X.calm=true)(C:cz X scope own kp kn)(hi:Fe X cl tg iter it)
 (hg:∀fp s H,E_ (bN X scope (own++kn) fp s H) cl tg t) (hif:∀fp s H,nj (bN X scope (own++kn) fp s H) ifs (CW X.K cl c)) (he:∀fp s H,PX (bN X scope (own++kn) fp s H) cl elt f)
 (hs:∀x,foldedSetIterable iter X.env x=pure x:=by intro _;rfl):PX X cl (.ListComp elt [⟨tg,iter,ifs,0⟩] scope pos) (tO it t c f own kp):=
 ⟨(t_ hc C hi.1 (fun fp s H=>(hg fp s H).1) hif (fun fp s H=>(he fp s H).1) hs).imp fun σ H Q h=>Ba h⟩
theorem DO{it:FA}{t:FG}{c:FB}{f:FX}{own:List Str}{kp:List Nat}{δ:DE}{S:aS}{QV:V3→aS→Prop}(P:Nat→List D→aS→Prop)(h:W3 (it δ S) fun vs S1=>vs.length≤sizeLine∧P 0 [] S1∧
 (∀i v ds S2,vs[i]? =some v→P i ds S2→∃δ1,t v (eB own kp δ)=some δ1∧W3 (c δ1 S2) fun b S3=>if b then W3 (f δ1 S3) fun y S4=>∃d,y= .d d∧P (i+1) (ds++[d]) S4 else P (i+1) ds S3)∧
 ∀ds S2,P vs.length ds S2→QV (.loc S2.length) (S2++[.lst ds])):W3 (tO it t c f own kp δ S) QV:=by
 refine W3.bind (h.mono fun vs S1 ⟨hl,h0,hs,hq⟩=>W3.wh (decide_eq_true hl) (W3.bind ?_))
 refine(lu (fun i ys S=>∃ds,ys=ds.map V3.d∧P i ds S) ⟨[],rfl,h0⟩ ?_).mono fun zs S2 ⟨ds,e,p⟩=>?_
 ·rintro i v ys S2 hv ⟨ds,rfl,p⟩
  obtain⟨δ1,e1,h1⟩:=hs i v ds S2 hv p
  refine⟨δ1,e1,h1.mono fun b S3 h3=>?_⟩
  cases b with
  | true=>
    rw[if_pos rfl] at h3 ⊢
    exact h3.mono fun y S4 ⟨d,e,p⟩=>by subst e;exact⟨ds++[d],by simp,p⟩
  | false=>rw [if_neg (by decide)] at h3 ⊢;exact⟨ds,rfl,h3⟩
 ·subst e
  rw[mK]
  exact W3.ok (hq ds S2 p)
end
end L3
end
section
set_option maxRecDepth 100000
set_option maxHeartbeats 4000000
namespace L3
open PySem PySem.Spec PyProof.Rows L2
section
variable {X:Cx} {cl:Nat→Addr}
theorem aF.resT{K:PySem.W.Frag}{ρ:P3}{H:Hp}{S:aS}(w:SW K cl ρ H S):∀{vs:List V3} {ds:List D} {xs:List V},gx S vs=some ds→aF K ρ H vs xs→aH K [] H ds xs
 | [],ds,xs,h,r=>by unfold gx at h;cases h;unfold aF at r;subst r;exact aH.nil
 | v ::vs,ds,xs,h,r=>by
   unfold gx at h
   cases e:res S v with
   | none=>rw [e] at h;cases h
   | some d=>
     rw[e] at h
     obtain⟨es,h1,rfl⟩:=jI (show(gx S vs).map (d ::·)=some ds from h)
     obtain⟨x,r',rfl,q1,q2⟩:=r.cu
     exact aH.cons (bp.res w e q1) (aF.resT w h1 q2)
noncomputable def vW(g:List D→R D)(fs:FA):FX:=fun δ S=>(fs δ S).bind fun vs S1=>match gx S1 vs with
 | some ds=>(R3.of (g ds) S1).bind fun d S=>R3.bZ (jF d) (.ok (.d d) S)
 | none=> .no
theorem BC{g:List D→R D}{k j n:Nat}{x:Str}{p pos:Pos}{e:Expr}{es:List Expr}{fs:FA}(C:Callee X.prog X.w X.K X.mg X.base k x n g)(hr:d8 j X.A)(hkj:k≤j)(hg:Gl X x)(ha:zV X cl (e ::es) fs)
 (hn:∀δ S ds S',fs δ S= .ok ds S'→ds.length=n) (hdb:(x==("__debug__":Str))=false:=by decide) (he:starEach (e ::es) X.env=(false,eval e X.env) ::starEach es X.env:=by rfl) (hpl:(backTo pos (starEach es X.env)).any (·.1)=false:=by rfl) :
 PX X cl (.Call (.Name x p) (e ::es) [] pos) (vW g fs):=by
 obtain⟨f,fd,ps,F,hm,hk,hb⟩:=C
 refine⟨(pA F (hr.mono hkj) hg hm hk hb .nil pV ha.1 hdb he hpl).imp fun σ H Q ⟨ρ,S,δ,v,S',E,hf,q⟩=>?_⟩
 obtain⟨vs,S1,h1,h2⟩:=R3.ak hf
 split at h2
 ·rename_i ds e
  obtain⟨d,S2,h3,h4⟩:=R3.ak h2
  obtain⟨h5,e5⟩:=R3.of_ok h3
  obtain⟨ht,h6⟩:=R3.bo h4
  cases h6
  subst e5
  refine⟨ρ,S,δ,vs,_,E,h1,fun us ρ1 H1 p1 w1 r1=>?_⟩
  show yD X.K n g (us++[]) H1 Q E0
  rw[List.append_nil]
  exact⟨by rw[←r1.length];exact hn δ S vs _ h1,[],ds,d,(fun a (ha:a∈([]:List Addr))=>absurd ha List.not_mem_nil),aF.resT w1 e r1,h5,fun z H' s2 r2=>q z ρ1 H' (p1.trans (Pre.same s2)) (w1.same s2) (by unfold bp;exact Rep.sG (w1.same s2).nt ht r2)⟩
 ·cases h2
theorem Dm{g:List D→R D}{fs:FA}{δ:DE}{S:aS}{QV:V3→aS→Prop}(h:W3 (fs δ S) fun vs S1=>∃ds d,gx S1 vs=some ds∧g ds= .ok d∧jF d=true∧QV (.d d) S1):W3 (vW g fs δ S) QV:=
 W3.bind (h.mono fun vs S1 ⟨ds,d,e1,e2,e3,q⟩=>by
  simp only[e1]
  exact W3.bind (W3.of e2 (W3.wh e3 (W3.ok q))))
end
end L3
end
section
set_option maxRecDepth 100000
set_option maxHeartbeats 4000000
namespace NT
noncomputable def mx(f:Nat→Nat)(w:List Nat):Nat:=(w.map f).foldl max 0
structure BA (f:Nat→Nat) (M:Nat) (bs:List Int):Prop where
 a:∀(z:Nat) (v:Int),bs[z]? =some v→v= -1∨(0≤v∧v+f z≤M)
noncomputable def BB(f:Nat→Nat)(M:Nat)(bs:List Int)(n:Nat):Prop:=∃(z:Nat) (v:Int),z < n∧bs[z]? =some v∧0≤v∧(M:Int)≤v+f z
noncomputable def Up(bs bs':List Int):Prop:=bs'.length=bs.length∧∀(z:Nat) (v:Int),bs[z]? =some v→∃v',bs'[z]? =some v'∧v≤v'
end NT
namespace NT
open PySem PySem.Spec PyProof.Rows L2 L3
structure Gt where
 k:Str
 w:List Nat
 s:Bool
noncomputable def nN(z:Nat):D:= .int z
noncomputable def wN(w:List Nat):D:= .tup (w.map nN)
noncomputable def gN(g:Gt):D:= .tup [.str g.k,wN g.w, .bl g.s]
noncomputable def iN(x:Str × Nat):D:= .tup [.str x.1, .int x.2]
noncomputable def oN(x:Str × List Nat):D:= .tup [.str x.1,wN x.2]
structure Net where
 i:List (Str × Nat)
 g:List Gt
 o:List (Str × List Nat)
noncomputable def Net.d(n:Net):D:= .tup [.lst (n.i.map iN), .lst (n.g.map gN), .lst (n.o.map oN)]
noncomputable def Net.first(n:Net):Nat:=(n.i.map (·.2)).sum
structure Kh (n:Nat) (w:List Nat):Prop where
 ne:w≠[]
 le:w.length≤3
 lt:∀z∈w,z < n
structure Net.Ok (n:Net):Prop where
 i1:1≤n.i.length
 i6:n.i.length≤6
 iw:∀x∈n.i,1≤x.2∧x.2≤3
 is:∀x∈n.i,jm 0 (.str x.1)
 g60:n.g.length≤60
 gw:∀(p:Nat) (g:Gt),n.g[p]? =some g→Kh (n.first+p) g.w
 gs:∀g∈n.g,jm 0 (.str g.k)
 o1:1≤n.o.length
 o6:n.o.length≤6
 ow:∀x∈n.o,Kh (n.first+n.g.length) x.2
 os:∀x∈n.o,jm 0 (.str x.1)
theorem Bh:∀{l:List (Str × Nat)},(∀x∈l,1≤x.2∧x.2≤3)→l.length≤(l.map (·.2)).sum∧(l.map (·.2)).sum≤3*l.length
 | [],_=>by simp
 | x ::l,h=>by
   have ih:=Bh (l:=l) fun y hy=>h y (List.mem_cons_of_mem _ hy)
   have:=h x List.mem_cons_self
   rw[List.map_cons,List.sum_cons,List.length_cons]
   omega
inductive Sm:Nat→D→Prop where
 | int (n:Nat) (i:Int):Sm n (.int i)
 | bl (n:Nat) (b:Bool):Sm n (.bl b)
 | str (n:Nat) (s:Str):Sm n (.str s)
 | lst {n:Nat} {ds:List D} (h:∀d∈ds,Sm n d) (hl:ds.length≤1000000):Sm (n+1) (.lst ds)
 | tup {n:Nat} {ds:List D} (h:∀d∈ds,Sm n d) (hl:ds.length≤1000000):Sm (n+1) (.tup ds)
theorem j_{F G:FS}{δ:aw}{d:D}(h:F δ= .ok (.rt d)):cQ F G δ= .ok (.rt d):=by unfold cQ;rw [h];rfl
theorem jC{m i:Nat}{v:V3}(h:((b_ 0 m).map V3.d)[i]? =some v):i < m∧v= .d (.int i):=by
 rw[List.getElem?_map,b_,List.getElem?_map] at h
 cases q:(List.range m)[i]? with
 | none=>rw [q] at h;cases h
 | some j=>
   rw[q] at h;cases h
   obtain⟨q1,q2⟩:=List.getElem?_eq_some_iff.mp q
   rw[List.getElem_range] at q2
   rw[List.length_range] at q1
   subst q2
   exact⟨q1,by simp⟩
theorem nJ{α:Type}{l:List α}{f:α→D}{i:Nat}{v:V3}(h:((l.map f).map V3.d)[i]? =some v):∃x,l[i]? =some x∧v= .d (f x):=by
 rw[List.getElem?_map,List.getElem?_map] at h
 cases q:l[i]? with
 | none=>rw [q] at h;cases h
 | some x=>rw [q] at h;cases h;exact⟨x,rfl,rfl⟩
theorem ye{α:Type}{l:List α}{f:α→D}{i:Nat}{v:D}(h:(l.map f)[i]? =some v):∃x,l[i]? =some x∧v=f x:=by
 rw[List.getElem?_map] at h
 cases q:l[i]? with
 | none=>rw [q] at h;cases h
 | some x=>rw [q] at h;cases h;exact⟨x,rfl,rfl⟩
theorem dZ{α:Type}{t:FT}{c:aw→R Bool}{f:FD}{δ:aw}(a b:α→D):∀{xs:List α},(∀x∈xs,∃δ1,t (a x) δ= .ok δ1∧c δ1= .ok true∧f δ1= .ok (b x))→m8 t c f δ (xs.map a)= .ok (xs.map b)
 | [],_=>rfl
 | x ::xs,h=>by
   obtain⟨δ1,h1,h2,h3⟩:=h x List.mem_cons_self
   have ih:=dZ (t:=t) (c:=c) (f:=f) (δ:=δ) a b (xs:=xs) fun y hy=>h y (List.mem_cons_of_mem _ hy)
   rw[List.map_cons]
   unfold m8
   rw[h1,R.aV,h2,R.aV,if_pos rfl,h3,R.aV,ih]
   rfl
theorem qo{α:Type}{t:FT}{c:aw→R Bool}{f:FD}{δ:aw}(p:α→Bool)(a b:α→D):∀{xs:List α},(∀x∈xs,∃δ1,t (a x) δ= .ok δ1∧c δ1= .ok (p x)∧(p x=true→f δ1= .ok (b x)))→m8 t c f δ (xs.map a)= .ok ((xs.filter p).map b)
 | [],_=>rfl
 | x ::xs,h=>by
   obtain⟨δ1,h1,h2,h3⟩:=h x List.mem_cons_self
   have ih:=qo (t:=t) (c:=c) (f:=f) (δ:=δ) p a b (xs:=xs) fun y hy=>h y (List.mem_cons_of_mem _ hy)
   rw[List.map_cons]
   unfold m8
   rw[h1,R.aV,h2,R.aV]
   cases e:p x with
   | true=>rw [if_pos rfl,h3 e,R.aV,ih,List.filter_cons,if_pos e];rfl
   | false=>rw [if_neg (by decide),ih,List.filter_cons,if_neg (by rw[e];decide)]
theorem CI{n z:Nat}(h:z < n):qp n (z:Int)=some z:=by
 unfold qp
 rw[if_pos (by omega),if_pos (by omega)]
 simp
theorem m5{α:Type}{xs:List α}{z:Nat}{x:α}(h:xs[z]? =some x):oe xs (z:Int)=some x:=by
 have hl:=(List.getElem?_eq_some_iff.mp h).1
 unfold oe
 rw[CI hl]
 exact h
theorem px{ds:List D}{z:Nat}{x:D}(h:ds[z]? =some x):ck (.lst ds) (.int z)= .ok x:=jA (m5 h)
theorem CK{ds:List D}{z:Nat}{x:D}(h:ds[z]? =some x):ck (.tup ds) (.int z)= .ok x:=nW (m5 h)
end NT
end
section
set_option maxRecDepth 100000
set_option maxHeartbeats 4000000
namespace MT
open PySem PySem.Spec PyProof.Rows L2 L3
noncomputable abbrev M:=Nat→Bool
theorem JK{N:List Str}{F:FZ}{vs:List V3}{δ:DE}{S:aS}{QV:V3→aS→Prop}(e:bX N vs=δ)(h:W3 (F δ S) fun o S1=>∃δ',o= .nx δ'∧QV (.d .cI) S1):W3 (mz N F vs S) QV:=by
 subst e
 exact W3.bind (h.mono fun _ _ ⟨_,e,q⟩=>by subst e;exact W3.ok q)
noncomputable def hV:Nat→M→Nat
 | 0,_=>0
 | N+1,f=>(if f 0 then 1 else 0)+2*hV N (fun i=>f (i+1))
theorem gM:∀(N:Nat) (f:M) (i:Nat),(hV N f).testBit i=(decide (i < N) && f i)
 | 0,f,i=>by unfold hV;simp
 | N+1,f,0=>by
   unfold hV
   rw[Nat.testBit_zero]
   cases f 0 <;> simp <;> omega
 | N+1,f,i+1=>by
   unfold hV
   rw[Nat.testBit_succ]
   have:((if f 0=true then 1 else 0)+2*hV N fun i=>f (i+1)) / 2=hV N fun i=>f (i+1):=by split <;> omega
   rw[this,gM N _ i]
   simp
theorem lG:∀{N:Nat} {f g:M},(∀i,i < N→f i=g i)→hV N f=hV N g
 | 0,_,_,_=>rfl
 | N+1,f,g,h=>by
   unfold hV
   rw[h 0 (by omega),lG (N:=N) fun i hi=>h (i+1) (by omega)]
theorem ya(N:Nat)(f g:M):hV N f &&& hV N g=hV N fun i=>f i && g i:=by
 refine Nat.eq_of_testBit_eq fun i=>?_
 rw[Nat.testBit_and,gM,gM,gM]
 cases decide (i < N) <;> simp
theorem Bl(N:Nat)(f g:M):hV N f ||| hV N g=hV N fun i=>f i || g i:=by
 refine Nat.eq_of_testBit_eq fun i=>?_
 rw[Nat.testBit_or,gM,gM,gM]
 cases decide (i < N) <;> simp
theorem yu:∀(N:Nat) (f g:M),((hV N fun i=>f i || g i:Nat):Int) - (hV N fun i=>f i && g i:Nat)=(hV N fun i=>f i !=g i:Nat)
 | 0,f,g=>rfl
 | N+1,f,g=>by
   have ih:=yu N (fun i=>f (i+1)) (fun i=>g (i+1))
   have e:∀h:M,hV (N+1) h=(if h 0 then 1 else 0)+2*hV N (fun i=>h (i+1)):=fun _=>rfl
   rw[e,e,e]
   generalize hV N (fun i=>f (i+1) || g (i+1))=a at ih ⊢
   generalize hV N (fun i=>f (i+1) && g (i+1))=b at ih ⊢
   generalize hV N (fun i=>f (i+1) !=g (i+1))=c at ih ⊢
   show(((if(f 0 || g 0) then 1 else 0)+2*a:Nat):Int) - ((if(f 0 && g 0) then 1 else 0)+2*b:Nat)=((if(f 0 !=g 0) then 1 else 0)+2*c:Nat)
   cases f 0 <;> cases g 0 <;> simp <;> omega
theorem qr(x y:Nat):Builtin.bitAnd (x:Int) (y:Int)=((x &&& y:Nat):Int):=by
 unfold Builtin.bitAnd
 rw[decide_eq_true (by omega:(0:Int)≤x),decide_eq_true (by omega:(0:Int)≤y)]
 simp
theorem x6(x y:Nat):Builtin.bitOr (x:Int) (y:Int)=((x ||| y:Nat):Int):=by
 unfold Builtin.bitOr Builtin.bitAnd Builtin.bitNot
 rw[decide_eq_false (by omega:¬(0:Int)≤ -(x:Int) - 1),decide_eq_false (by omega:¬(0:Int)≤ -(y:Int) - 1)]
 show -(-(((-(-(x:Int) - 1) - 1).toNat ||| (-(-(y:Int) - 1) - 1).toNat:Nat):Int) - 1) - 1=_
 rw[show(-(-(x:Int) - 1) - 1).toNat=x by omega,show(-(-(y:Int) - 1) - 1).toNat=y by omega]
 omega
noncomputable def mI(N:Nat)(f:M):D:= .int (hV N f:Nat)
theorem uh(N:Nat)(f g:M):Cm (mI N f) (mI N g)= .ok (mI N fun i=>f i && g i):=by
 show R.ok (D.int (Builtin.bitAnd (hV N f:Int) (hV N g:Int)))=_
 rw[qr,ya];rfl
theorem AM(N:Nat)(f g:M):EE (mI N f) (mI N g)= .ok (mI N fun i=>f i || g i):=by
 show R.ok (D.int (Builtin.bitOr (hV N f:Int) (hV N g:Int)))=_
 rw[x6,Bl];rfl
theorem Eh(N:Nat)(f g:M):Ce (mI N f) (mI N g)= .ok (mI N fun i=>f i !=g i):=by
 show R.ok (D.int (Builtin.bitOr (hV N f:Int) (hV N g:Int) - Builtin.bitAnd (hV N f:Int) (hV N g:Int)))=_
 rw[x6,qr,Bl,ya,yu];rfl
noncomputable def one:M:=fun _=>true
theorem uX(N:Nat)(f:M):Ce (mI N one) (mI N f)= .ok (mI N fun i=>!f i):=by
 rw[Eh]
 have:(fun i=>one i !=f i)=fun i=>!f i:=by funext i;unfold one;simp
 rw[this]
theorem B4(N:Nat)(f:M)(c:Bool):(if c then Ce (mI N one) (mI N f) else .ok (mI N f))= .ok (mI N fun i=>f i !=c):=by
 cases c with
 | true=>
   rw[if_pos rfl,uX]
   have:(fun i=>!f i)=fun i=>f i !=true:=by funext i;cases f i <;> rfl
   rw[this]
 | false=>
   rw[if_neg (by decide)]
   have:f=fun i=>f i !=false:=by funext i;cases f i <;> rfl
   rw[←this]
theorem Ha(N:Nat)(f:M)(n:Nat):(n4 (mI N f) (.int n)).bind (fun d=>Cm d (.int 1))= .ok (.int (if decide (n < N) && f n then 1 else 0)):=by
 have h1:n4 (mI N f) (.int n)= .ok (.int ((hV N f / 2 ^ n:Nat):Int)):=by
  show R.bZ (decide ((0:Int)≤n)) (.ok (D.int ((hV N f:Int) / 2 ^ ((n:Int)).toNat)))=_
  rw[cc _ (by omega),Int.toNat_natCast]
  congr 2
 rw[h1,R.aV]
 show R.ok (D.int (Builtin.bitAnd ((hV N f / 2 ^ n:Nat):Int) ((1:Nat):Int)))=_
 rw[qr,Nat.and_one_is_mod,←gM]
 congr 2
 unfold Nat.testBit
 rw[Nat.shiftRight_eq_div_pow,Nat.one_and_eq_mod_two]
 have:hV N f / 2 ^ n % 2=0∨hV N f / 2 ^ n % 2=1:=by omega
 rcases this with q | q <;> rw[q] <;> rfl
noncomputable def bI(b:Bool):D:= .int (if b then 1 else 0)
noncomputable def Cj:List Bool→Nat
 | []=>0
 | b ::bs=>(if b then 1 else 0)+2*Cj bs
theorem AZ:∀bs:List Bool,Cj bs=hV bs.length fun i=>bs.getD i false
 | []=>rfl
 | b ::bs=>by
   unfold Cj
   rw[AZ bs]
   rfl
noncomputable def nI(n:Nat):D:= .int (n:Int)
noncomputable def kS:Nat→Str | 0=>Str.ofString "not" | 1=>Str.ofString "and" | 2=>Str.ofString "or" | 3=>Str.ofString "xor" | _=>Str.ofString "vote"
noncomputable def ar:Nat→Nat | 0=>1 | 4=>3 | _=>2
theorem uK(k:Nat):ar k≤3:=by unfold ar;split <;> omega
noncomputable def gv:Nat→List Bool→Bool
 | 0,[a]=>!a
 | 1,[a,b]=>a && b
 | 2,[a,b]=>a || b
 | 3,[a,b]=>a !=b
 | 4,[a,b,c]=>(a && b) || (a && c) || (b && c)
 | _,_=>false
noncomputable def jR(ws:List M)(n:Nat):M:=ws.getD n fun _=>false
theorem pM{ws:List M}{b:M}{n:Nat}(h:n < ws.length):jR (ws++[b]) n=jR ws n:=by
 unfold jR
 rw[List.getD_eq_getElem?_getD,List.getElem?_append_left h,List.getD_eq_getElem?_getD]
theorem qe(ws:List M)(b:M):jR (ws++[b]) ws.length=b:=by
 unfold jR
 rw[List.getD_eq_getElem?_getD,List.getElem?_append_right (Nat.le_refl _),Nat.sub_self]
 rfl
noncomputable abbrev Gt:=Nat × List Nat × Bool
noncomputable def iK(g:Gt):D:= .tup [.str (kS g.1), .tup (g.2.1.map nI), .bl g.2.2]
noncomputable def lh(n:Nat)(g:Gt):Prop:=g.1≤4∧g.2.1.length=ar g.1∧∀w∈g.2.1,w < n
noncomputable def inD(x:Str × Nat):D:= .tup [.str x.1,nI x.2]
noncomputable def i0(x:Str × List Nat):D:= .tup [.str x.1, .tup (x.2.map nI)]
noncomputable def bB(ins:List (Str × Nat))(gs:List Gt)(os:List (Str × List Nat)):D:= .tup [.lst (ins.map inD), .lst (gs.map iK), .lst (os.map i0)]
noncomputable def fX(ins:List (Str × Nat)):Nat:=(ins.map (·.2)).sum
noncomputable def gF(g:Gt)(ws:List M):M:=fun p=>gv g.1 (g.2.1.map fun n=>jR ws n p)
noncomputable def fu(bad:List Int)(b:M):Nat→List M→List M
 | 0,ws=>ws
 | n+1,ws=>fu bad b n ws++[fun p=>b p !=bad.contains ((fu bad b n ws).length:Int)]
theorem fR(bad:List Int)(b:M):∀n ws,(fu bad b n ws).length=ws.length+n
 | 0,ws=>rfl
 | n+1,ws=>by unfold fu;rw [List.length_append,fR bad b n ws];rfl
noncomputable def cw(ins:List (Str × Nat))(bits:List M)(bad:List Int):Nat→List M
 | 0=>[]
 | i+1=>match ins[i]?,bits[i]? with | some x,some b=>fu bad b x.2 (cw ins bits bad i) | _,_=>cw ins bits bad i
theorem jN{ins:List (Str × Nat)}{bits:List M}{bad:List Int}(hb:bits.length=ins.length):∀i,i≤ins.length→(cw ins bits bad i).length=fX (ins.take i)
 | 0,_=>rfl
 | i+1,hi=>by
   have h1:ins[i]? =some ins[i]:=List.getElem?_eq_getElem (by omega)
   have h2:bits[i]? =some bits[i]:=List.getElem?_eq_getElem (by omega)
   unfold cw
   rw[h1,h2]
   show(fu bad bits[i] ins[i].2 (cw ins bits bad i)).length=_
   rw[fR,jN hb i (by omega),List.take_add_one,h1]
   unfold fX
   simp only[Option.toList_some,List.map_append,List.sum_append,List.map_cons,List.map_nil,List.sum_cons,List.sum_nil]
   omega
noncomputable def j1(gs:List Gt)(turned:List Int)(w0:List M):Nat→List M
 | 0=>w0
 | i+1=>match gs[i]? with | some g=>j1 gs turned w0 i++[fun p=>gF g (j1 gs turned w0 i) p !=turned.contains (i:Int)] | none=>j1 gs turned w0 i
theorem lH{gs:List Gt}{turned:List Int}{w0:List M}:∀i,i≤gs.length→(j1 gs turned w0 i).length=w0.length+i
 | 0,_=>rfl
 | i+1,hi=>by
   have h1:gs[i]? =some gs[i]:=List.getElem?_eq_getElem (by omega)
   unfold j1
   rw[h1]
   show(j1 gs turned w0 i++[_]).length=_
   rw[List.length_append,lH i (by omega)]
   rfl
structure i8 (ins:List (Str × Nat)) (gs:List Gt) (os:List (Str × List Nat)):Prop where
 hi:ins.length < 100
 hw:∀x∈ins,x.2 < 100
 hg:gs.length < 1000
 g:∀(i:Nat) (x:Gt),gs[i]? =some x→lh (fX ins+i) x
 ho:os.length < 1000
 o:∀x∈os,x.2.length < 1000∧∀w∈x.2,w < fX ins+gs.length
noncomputable def qC(ins:List (Str × Nat))(gs:List Gt)(bits:List M)(turned bad:List Int):List M:=j1 gs turned (cw ins bits bad ins.length) gs.length
theorem qj:∀{l:List (Str × Nat)},(∀x∈l,x.2 < 100)→fX l≤100*l.length
 | [],_=>by simp [fX]
 | x ::l,h=>by
   have ih:=qj (l:=l) fun y hy=>h y (List.mem_cons_of_mem _ hy)
   have:=h x List.mem_cons_self
   unfold fX at ih ⊢
   rw[List.map_cons,List.sum_cons,List.length_cons]
   omega
theorem vt{ins:List (Str × Nat)}{gs:List Gt}{bits:List M}{turned bad:List Int}(hb:bits.length=ins.length):(qC ins gs bits turned bad).length=fX ins+gs.length:=by unfold qC;rw [lH _ (Nat.le_refl _),jN hb _ (Nat.le_refl _),List.take_length]
noncomputable def tell(ws:List M)(x:Str × List Nat):List M:=x.2.map (jR ws)
noncomputable def IW:List Bool→Bool × Bool
 | [a]=>(!a,a)
 | [a,b]=>(!(a || b),a && b)
 | [a,b,c]=>let v:=(a && b) || (a && c) || (b && c);(!v,v)
 | _=>(false,false)
noncomputable def brk(safe:Bool)(x y:Bool × Bool):Bool:=if safe then(x.1 && y.2) || (x.2 && y.1) else(x.1 !=y.1) || (x.2 !=y.2)
theorem pK(i:Int)(ps:List Int):pd (.int i) (.tup (ps.map .int))= .ok (.bl (ps.contains i)):=by
 show((match ints? (ps.map D.int) with | some ss=>R.ok (ss.contains i) | none=> .no)).bind (fun b=>R.ok (D.bl b))=_
 rw[L2.ints_map];rfl
theorem tQ{ds:List D}{i:Nat}{v:V3}(h:((ft ds).map V3.d)[i]? =some v):∃d,ds[i]? =some d∧v= .d (.tup [.int i,d]):=by
 rw[List.getElem?_map,ft,List.getElem?_map,List.getElem?_zipIdx] at h
 cases q:ds[i]? with
 | none=>rw [q] at h;cases h
 | some d=>
   rw[q] at h
   simp at h
   exact⟨d,rfl,h.symm⟩
theorem sW{c:aw→R Bool}{f g:FD}{δ:aw}{b:Bool}{r:R D}(h:c δ= .ok b)(h2:(if b then f δ else g δ)=r):w_ c f g δ=r:=by unfold w_;rw [h,R.aV];exact h2
theorem f6(S:aS)(x y:SO):(S++[x]).set S.length y=S++[y]:=by
 rw[List.set_append_right _ _ (Nat.le_refl _),Nat.sub_self];rfl
theorem bH(S:aS)(x:SO):(S++[x])[S.length]? =some x:=by rw[List.getElem?_append_right (Nat.le_refl _),Nat.sub_self];rfl
theorem zO{N:Nat}{ws:List M}{n:Nat}(h:n < ws.length):ck (.lst (ws.map (mI N))) (nI n)= .ok (mI N (jR ws n)):=by
 refine NT.px ?_
 rw[List.getElem?_map,List.getElem?_eq_getElem h]
 unfold jR
 rw[List.getD_eq_getElem?_getD,List.getElem?_eq_getElem h]
 rfl
end MT
namespace MT
open PySem PySem.Spec PyProof.Rows L2 L3
noncomputable def La:List Nat→Nat→List (List Nat)
 | _,0=>[[]]
 | ps,s+1=>(List.range ps.length).flatMap fun a=>(La (ps.drop (a+1)) s).map (ps.getD a 0 ::·)
end MT
end
section
set_option Elab.async false
set_option linter.all false
set_option maxRecDepth 100000
set_option maxHeartbeats 4000000
namespace K11
open PySem PySem.Spec PyProof.Rows L2 L3
noncomputable def top(i:Nat):Stmt:=PySem.Challenge.pw_bearfaults_k11_outs_read_and_columns.main.body.getD i (.Pass ⟨0,0,0,0⟩)
structure Tp (K:PySem.W.Frag) (mg:Str→Option Value) (cl:Nat→Addr):Prop where
 z_enumerate:mg (Str.ofString "enumerate")=none
 z_range:mg (Str.ofString "range")=none
 z_len:mg (Str.ofString "len")=none
 z_tuple:mg (Str.ofString "tuple")=none
 z_reversed:mg (Str.ofString "reversed")=none
 z_all:mg (Str.ofString "all")=none
 z_abs:mg (Str.ofString "abs")=none
 z_min:mg (Str.ofString "min")=none
 z_max:mg (Str.ofString "max")=none
 z_sum:mg (Str.ofString "sum")=none
 z_int:mg (Str.ofString "int")=none
 z_isinstance:mg (Str.ofString "isinstance")=none
 z_bool:mg (Str.ofString "bool")=none
 z_str:mg (Str.ofString "str")=none
 z_list:mg (Str.ofString "list")=none
 C_Bench:vH K (cl 0)
 N_Bench_net:eP K (cl 0) (Str.ofString "net")
 N_Bench_many_inputs:eP K (cl 0) (Str.ofString "many_inputs")
 N_Bench_full:eP K (cl 0) (Str.ofString "full")
 N_Bench_in_masks:eP K (cl 0) (Str.ofString "in_masks")
 M_Bench:mg (Str.ofString "Bench")=some (.ref (cl 0))
noncomputable abbrev eZ:Stmt:=top 2
noncomputable abbrev rQ:List Str:=[(Str.ofString "masks")]
noncomputable def w9:{b:List Stmt // aq eZ=b}:=by
 have e:aq eZ=aq eZ:=rfl
 conv at e=>rhs;whnf
 exact⟨_,e⟩
noncomputable def qI:{b:Scope // ah eZ=b}:=by
 have e:ah eZ=ah eZ:=rfl
 conv at e=>rhs;whnf
 exact⟨_,e⟩
theorem yG:ba rQ [(Str.ofString "masks")] qI.1:=⟨rfl,rfl,rfl,by decide+kernel,rfl,by decide+kernel,by decide+kernel⟩
noncomputable def sI:FS:=(cJ (e2 EE (e2 EE (e2 Cm (e2 ck (ag 0) (eC (.int 0))) (e2 ck (ag 0) (eC (.int 1)))) (e2 Cm (e2 ck (ag 0) (eC (.int 0))) (e2 ck (ag 0) (eC (.int 2))))) (e2 Cm (e2 ck (ag 0) (eC (.int 1))) (e2 ck (ag 0) (eC (.int 2))))))
noncomputable def fV:List D→R D:=lF rQ sI
theorem zk{P:Program}{w:World}{K:PySem.W.Frag}{mg:Str→Option Value}{base:Heap}{cl:Nat→Addr}(T:Tp K mg cl)(h:Def K mg (Str.ofString "vote_of") eZ):Callee P w K mg base 1 (Str.ofString "vote_of") 1 fV:=by
 obtain⟨f,fd,F,hm⟩:=h
 exact⟨f,fd,_,cj (k:=0) w9.2 qI.2 F yG (fun cdv A outer s H E hr=>(aG (aU (aQ A1 (aQ A1 (aQ zp (aC (aa 0) ae (fun _ _=>rfl)) (aC (aa 0) ae (fun _ _=>rfl))) (aQ zp (aC (aa 0) ae (fun _ _=>rfl)) (aC (aa 0) ae (fun _ _=>rfl)))) (aQ zp (aC (aa 0) ae (fun _ _=>rfl)) (aC (aa 0) ae (fun _ _=>rfl))))))),hm,F.kp,F.binds fun _ _ _ _ _ _ us hl=>match us,hl with | [_],_=>rfl⟩
noncomputable abbrev dE:Stmt:=top 3
noncomputable abbrev kY:List Str:=[(Str.ofString "kind"),(Str.ofString "masks"),(Str.ofString "full")]
noncomputable def tG:{b:List Stmt // aq dE=b}:=by
 have e:aq dE=aq dE:=rfl
 conv at e=>rhs;whnf
 exact⟨_,e⟩
noncomputable def mS:{b:Scope // ah dE=b}:=by
 have e:ah dE=ah dE:=rfl
 conv at e=>rhs;whnf
 exact⟨_,e⟩
theorem uP:ba kY [(Str.ofString "kind"),(Str.ofString "masks"),(Str.ofString "full")] mS.1:=⟨rfl,rfl,rfl,by decide+kernel,rfl,by decide+kernel,by decide+kernel⟩
noncomputable def om:FS:=(cQ (jK (b2 iq (ag 0) (eC (.str (Str.ofString "not")))) (cJ (e2 Ce (ag 2) (e2 ck (ag 1) (eC (.int 0))))) eA) (cQ (jK (b2 iq (ag 0) (eC (.str (Str.ofString "and")))) (cJ (e2 Cm (e2 ck (ag 1) (eC (.int 0))) (e2 ck (ag 1) (eC (.int 1))))) eA) (cQ (jK (b2 iq (ag 0) (eC (.str (Str.ofString "or")))) (cJ (e2 EE (e2 ck (ag 1) (eC (.int 0))) (e2 ck (ag 1) (eC (.int 1))))) eA) (cQ (jK (b2 iq (ag 0) (eC (.str (Str.ofString "xor")))) (cJ (e2 Ce (e2 ck (ag 1) (eC (.int 0))) (e2 ck (ag 1) (eC (.int 1))))) eA) (cJ (aA fV (ao (ag 1) aD)))))))
noncomputable def fN:List D→R D:=lF kY om
theorem vk{P:Program}{w:World}{K:PySem.W.Frag}{mg:Str→Option Value}{base:Heap}{cl:Nat→Addr}(T:Tp K mg cl)(h:Def K mg (Str.ofString "gate_mask") dE)(C_vote_of:Callee P w K mg base 1 (Str.ofString "vote_of") 1 fV):Callee P w K mg base 2 (Str.ofString "gate_mask") 3 fN:=by
 obtain⟨f,fd,F,hm⟩:=h
 exact⟨f,fd,_,cj (k:=1) tG.2 mS.2 F uP (fun cdv A outer s H E hr=>(aT (cg (bC (gC hr.units) (aa 0) bK (bJ _)) (aG (aU (aQ y0 (aa 2) (aC (aa 1) ae (fun _ _=>rfl))))) bQ) (aT (cg (bC (gC hr.units) (aa 0) bK (bJ _)) (aG (aU (aQ zp (aC (aa 1) ae (fun _ _=>rfl)) (aC (aa 1) ae (fun _ _=>rfl))))) bQ) (aT (cg (bC (gC hr.units) (aa 0) bK (bJ _)) (aG (aU (aQ A1 (aC (aa 1) ae (fun _ _=>rfl)) (aC (aa 1) ae (fun _ _=>rfl))))) bQ) (aT (cg (bC (gC hr.units) (aa 0) bK (bJ _)) (aG (aU (aQ y0 (aC (aa 1) ae (fun _ _=>rfl)) (aC (aa 1) ae (fun _ _=>rfl))))) bQ) (aG (aU (aX C_vote_of hr (by decide) rfl (ab (aa 1) af) (ax bq))))))))),hm,F.kp,F.binds fun _ _ _ _ _ _ us hl=>match us,hl with | [_,_,_],_=>rfl⟩
noncomputable abbrev cq:Stmt:=top 4
noncomputable abbrev fI:List Str:=[(Str.ofString "ins"),(Str.ofString "in_masks"),(Str.ofString "full"),(Str.ofString "bad"),(Str.ofString "wires"),(Str.ofString "place"),(Str.ofString "mask"),(Str.ofString "figure")]
noncomputable def n6:{b:List Stmt // aq cq=b}:=by
 have e:aq cq=aq cq:=rfl
 conv at e=>rhs;whnf
 exact⟨_,e⟩
noncomputable def jT:{b:Scope // ah cq=b}:=by
 have e:ah cq=ah cq:=rfl
 conv at e=>rhs;whnf
 exact⟨_,e⟩
theorem eg:ba fI [(Str.ofString "ins"),(Str.ofString "in_masks"),(Str.ofString "full"),(Str.ofString "bad")] jT.1:=⟨rfl,rfl,rfl,by decide+kernel,rfl,by decide+kernel,by decide+kernel⟩
noncomputable def gc:FZ:=(jJ 4 (xT (w_ (b2 pd (aA cO (ao (ag 4) aD)) (ag 3)) (e2 Ce (ag 2) (ag 6)) (ag 6))))
noncomputable def jn:FZ:=(kD (iP (ei (e2 ck (e2 ck (ag 0) (ag 5)) (eC (.int 1))))) (ky 7) gc)
noncomputable def ie:FZ:=(bz (cA 4 (lZ (dk aD))) (bz (kD (iP (yq (ag 1))) (y1 2 (wI (ky 5) (wI (ky 6) zK))) jn) (iz (bL 4))))
noncomputable def df:List V3→aS→R3 V3:=mz fI ie
noncomputable def n5:List V3→aS→R3 V3:=nA fI ie
theorem o3{P:Program}{w:World}{K:PySem.W.Frag}{mg:Str→Option Value}{base:Heap}{cl:Nat→Addr}(T:Tp K mg cl)(h:Def K mg (Str.ofString "in_wire_masks") cq):aI P w K mg base cl 1 (Str.ofString "in_wire_masks") 4 df:=by
 obtain⟨f,fd,F,hm⟩:=h
 exact⟨f,fd,_,cC (k:=0) n6.2 jT.2 F eg (fun cdv A outer s H E hr=>(av (bf eg.nd rfl (Or.inl rfl) (gK (bM af))) (av (fB PassesOwn.never rfl (dg (wR (aa 1) rfl T.z_enumerate)) (sO rfl (iF (bG eg.nd rfl (Or.inl rfl)) (iF (bG eg.nd rfl (Or.inl rfl)) pU))) (aZ (fB PassesOwn.never rfl (dg (cx (aC (aC (aa 0) (aa 5) (fun _ _=>rfl)) ae (fun _ _=>rfl)) rfl T.z_range)) (bG eg.nd rfl (Or.inl rfl)) (aZ (gI rfl (Or.inl rfl) (cB (wX (bC yZ (aM cZ rfl T.z_len PySem.boot_len (ab (aa 4) af)) (aa 3) (by with_unfolding_all rfl)) (aQ y0 (aa 2) (aa 6)) (aa 6)))))))) (aZ (dm (aR 4)))))),hm,F.kp,F.binds fun _ _ _ _ _ _ us hl=>match us,hl with | [_,_,_,_],_=>rfl⟩
noncomputable abbrev d5:Stmt:=top 5
noncomputable abbrev l8:List Str:=[(Str.ofString "wires"),(Str.ofString "numbers")]
noncomputable def uy:{b:List Stmt // aq d5=b}:=by
 have e:aq d5=aq d5:=rfl
 conv at e=>rhs;whnf
 exact⟨_,e⟩
noncomputable def k3:{b:Scope // ah d5=b}:=by
 have e:ah d5=ah d5:=rfl
 conv at e=>rhs;whnf
 exact⟨_,e⟩
theorem xc:ba l8 [(Str.ofString "wires"),(Str.ofString "numbers")] k3.1:=⟨rfl,rfl,rfl,by decide+kernel,rfl,by decide+kernel,by decide+kernel⟩
noncomputable def pP:FS:=(cJ (aA fK (ao (eNew (il (eJ (ag 1)) (bw 0) oW (e2 ck (ag 1) (ag 0)) [(Str.ofString "number")] [0])) aD)))
noncomputable def eO:List D→R D:=lF l8 pP
theorem vO{P:Program}{w:World}{K:PySem.W.Frag}{mg:Str→Option Value}{base:Heap}{cl:Nat→Addr}(T:Tp K mg cl)(h:Def K mg (Str.ofString "masks_at") d5):Callee P w K mg base 1 (Str.ofString "masks_at") 2 eO:=by
 obtain⟨f,fd,F,hm⟩:=h
 exact⟨f,fd,_,cj (k:=0) uy.2 k3.2 F xc (fun cdv A outer s H E hr=>(aG (aU (cY pz rfl T.z_tuple PyProof.Rows.boot_tuple (ab (bY (fG rfl (cz.of (own:=[(Str.ofString "number")]) (kp:=[0]) (kn:=[(Str.ofString "wires")]) (sc:=k3.1) (N:=l8) rfl rfl (by decide+kernel)) (cR (aa 1)) (fun _ _ _=>(bx (show List.Nodup [(Str.ofString "number"),(Str.ofString "wires")] from by decide+kernel) rfl (Or.inl rfl))) (fun _ _ _=>eT) (fun _ _ _=>(aC (aa 1) (aa 0) (fun _ _=>rfl))))) af))))),hm,F.kp,F.binds fun _ _ _ _ _ _ us hl=>match us,hl with | [_,_],_=>rfl⟩
noncomputable abbrev dc:Stmt:=top 6
noncomputable abbrev iB:List Str:=[(Str.ofString "net"),(Str.ofString "in_masks"),(Str.ofString "full"),(Str.ofString "turned"),(Str.ofString "bad"),(Str.ofString "wires"),(Str.ofString "place"),(Str.ofString "gate"),(Str.ofString "mask")]
noncomputable def qY:{b:List Stmt // aq dc=b}:=by
 have e:aq dc=aq dc:=rfl
 conv at e=>rhs;whnf
 exact⟨_,e⟩
noncomputable def lV:{b:Scope // ah dc=b}:=by
 have e:ah dc=ah dc:=rfl
 conv at e=>rhs;whnf
 exact⟨_,e⟩
theorem gu:ba iB [(Str.ofString "net"),(Str.ofString "in_masks"),(Str.ofString "full"),(Str.ofString "turned"),(Str.ofString "bad")] lV.1:=⟨rfl,rfl,rfl,by decide+kernel,rfl,by decide+kernel,by decide+kernel⟩
noncomputable def iS:FZ:=(bz (cA 8 (xT (aA fN (ao (e2 ck (ag 7) (eC (.int 0))) (ao (aA eO (ao (ag 5) (ao (e2 ck (ag 7) (eC (.int 1))) aD))) (ao (ag 2) aD)))))) (jJ 5 (xP (w_ (b2 pd (ag 6) (ag 3)) (e2 Ce (ag 2) (ag 8)) (ag 8)))))
noncomputable def j3:FZ:=(bz (cA 5 (bU df (ay (xP (e2 ck (ag 0) (eC (.int 0)))) (ay (xP (ag 1)) (ay (xP (ag 2)) (ay (xP (ag 4)) bW)))))) (bz (kD (iP (k8 (e2 ck (ag 0) (eC (.int 1))))) (y1 2 (wI (ky 6) (wI (ky 7) zK))) iS) (iz (bL 5))))
noncomputable def lP:List V3→aS→R3 V3:=mz iB j3
noncomputable def fE:List V3→aS→R3 V3:=nA iB j3
theorem tq{P:Program}{w:World}{K:PySem.W.Frag}{mg:Str→Option Value}{base:Heap}{cl:Nat→Addr}(T:Tp K mg cl)(h:Def K mg (Str.ofString "wire_masks") dc)(C_masks_at:Callee P w K mg base 1 (Str.ofString "masks_at") 2 eO)(C_gate_mask:Callee P w K mg base 2 (Str.ofString "gate_mask") 3 fN)(XK_in_wire_masks:aI P w K mg base cl 1 (Str.ofString "in_wire_masks") 4 df):aI P w K mg base cl 3 (Str.ofString "wire_masks") 5 lP:=by
 obtain⟨f,fd,F,hm⟩:=h
 exact⟨f,fd,_,cC (k:=2) qY.2 lV.2 F gu (fun cdv A outer s H E hr=>(av (bf gu.nd rfl (Or.inl rfl) (bj XK_in_wire_masks hr (by decide) rfl (ai (au (aC (aa 0) ae (fun _ _=>rfl))) (ai (au (aa 1)) (ai (au (aa 2)) (ai (au (aa 4)) aO)))) (aj (aj (aj (aj aK)))))) (av (fB PassesOwn.never rfl (dg (rF (aC (aa 0) ae (fun _ _=>rfl)) rfl T.z_enumerate)) (sO rfl (iF (bG gu.nd rfl (Or.inl rfl)) (iF (bG gu.nd rfl (Or.inl rfl)) pU))) (av (bf gu.nd rfl (Or.inl rfl) (cB (aX C_gate_mask hr (by decide) rfl (ab (aC (aa 7) ae (fun _ _=>rfl)) (ab (aX C_masks_at hr (by decide) rfl (ab (aa 5) (ab (aC (aa 7) ae (fun _ _=>rfl)) af)) (ax (ax bq))) (ab (aa 2) af))) (ax (ax (ax bq)))))) (aZ (gI rfl (Or.inl rfl) (au (wX (bC yZ (aa 6) (aa 3) (by with_unfolding_all rfl)) (aQ y0 (aa 2) (aa 8)) (aa 8))))))) (aZ (dm (aR 5)))))),hm,F.kp,F.binds fun _ _ _ _ _ _ us hl=>match us,hl with | [_,_,_,_,_],_=>rfl⟩
noncomputable abbrev dG:Stmt:=top 7
noncomputable abbrev g7:List Str:=[(Str.ofString "net"),(Str.ofString "wires")]
noncomputable def tR:{b:List Stmt // aq dG=b}:=by
 have e:aq dG=aq dG:=rfl
 conv at e=>rhs;whnf
 exact⟨_,e⟩
noncomputable def j6:{b:Scope // ah dG=b}:=by
 have e:ah dG=ah dG:=rfl
 conv at e=>rhs;whnf
 exact⟨_,e⟩
theorem uD:ba g7 [(Str.ofString "net"),(Str.ofString "wires")] j6.1:=⟨rfl,rfl,rfl,by decide+kernel,rfl,by decide+kernel,by decide+kernel⟩
noncomputable def k4:FZ:=(iz (lZ (il (eJ (e2 ck (ag 0) (eC (.int 2)))) (jf 2 (d6 (bw 0) (d6 (bw 1) jl))) oW (aA eO (ao (ag 2) (ao (ag 1) aD))) [(Str.ofString "name"),(Str.ofString "numbers")] [1])))
noncomputable def mY:List V3→aS→R3 V3:=mz g7 k4
noncomputable def gd:List V3→aS→R3 V3:=nA g7 k4
theorem uC{P:Program}{w:World}{K:PySem.W.Frag}{mg:Str→Option Value}{base:Heap}{cl:Nat→Addr}(T:Tp K mg cl)(h:Def K mg (Str.ofString "out_masks") dG)(C_masks_at:Callee P w K mg base 1 (Str.ofString "masks_at") 2 eO):aI P w K mg base cl 2 (Str.ofString "out_masks") 2 mY:=by
 obtain⟨f,fd,F,hm⟩:=h
 exact⟨f,fd,_,cC (k:=1) tR.2 j6.2 F uD (fun cdv A outer s H E hr=>(aZ (dm (gK (fG rfl (cz.of (own:=[(Str.ofString "name"),(Str.ofString "numbers")]) (kp:=[1]) (kn:=[(Str.ofString "wires")]) (sc:=j6.1) (N:=g7) rfl rfl (by decide+kernel)) (cR (aC (aa 0) ae (fun _ _=>rfl))) (fun _ _ _=>(m_ rfl (d9 (bx (show List.Nodup [(Str.ofString "name"),(Str.ofString "numbers"),(Str.ofString "wires")] from by decide+kernel) rfl (Or.inl rfl)) (d9 (bx (show List.Nodup [(Str.ofString "name"),(Str.ofString "numbers"),(Str.ofString "wires")] from by decide+kernel) rfl (Or.inl rfl)) lB)))) (fun _ _ _=>eT) (fun _ _ _=>(aX C_masks_at hr (by decide) rfl (ab (aa 2) (ab (aa 1) af)) (ax (ax bq))))))))),hm,F.kp,F.binds fun _ _ _ _ _ _ us hl=>match us,hl with | [_,_],_=>rfl⟩
noncomputable abbrev fq:Stmt:=top 8
noncomputable abbrev lC:List Str:=[(Str.ofString "masks"),(Str.ofString "full"),(Str.ofString "ones")]
noncomputable def wy:{b:List Stmt // aq fq=b}:=by
 have e:aq fq=aq fq:=rfl
 conv at e=>rhs;whnf
 exact⟨_,e⟩
noncomputable def pT:{b:Scope // ah fq=b}:=by
 have e:ah fq=ah fq:=rfl
 conv at e=>rhs;whnf
 exact⟨_,e⟩
theorem rL:ba lC [(Str.ofString "masks"),(Str.ofString "full")] pT.1:=⟨rfl,rfl,rfl,by decide+kernel,rfl,by decide+kernel,by decide+kernel⟩
noncomputable def sr:FS:=(cQ (jK (b2 iq (aA cO (ao (ag 0) aD)) (eC (.int 2))) (cJ (fA (ao (e2 Ce (ag 1) (e2 EE (e2 ck (ag 0) (eC (.int 0))) (e2 ck (ag 0) (eC (.int 1))))) (ao (e2 Cm (e2 ck (ag 0) (eC (.int 0))) (e2 ck (ag 0) (eC (.int 1)))) aD)))) eA) (cQ (i3 2 (w_ (b2 iq (aA cO (ao (ag 0) aD)) (eC (.int 1))) (e2 ck (ag 0) (eC (.int 0))) (aA fV (ao (ag 0) aD)))) (cJ (fA (ao (e2 Ce (ag 1) (ag 2)) (ao (ag 2) aD))))))
noncomputable def fS:List D→R D:=lF lC sr
theorem yU{P:Program}{w:World}{K:PySem.W.Frag}{mg:Str→Option Value}{base:Heap}{cl:Nat→Addr}(T:Tp K mg cl)(h:Def K mg (Str.ofString "reading") fq)(C_vote_of:Callee P w K mg base 1 (Str.ofString "vote_of") 1 fV):Callee P w K mg base 2 (Str.ofString "reading") 2 fS:=by
 obtain⟨f,fd,F,hm⟩:=h
 exact⟨f,fd,_,cj (k:=1) wy.2 pT.2 F rL (fun cdv A outer s H E hr=>(aT (cg (bC (gC hr.units) (aM cZ rfl T.z_len PySem.boot_len (ab (aa 0) af)) ae (bJ _)) (aG (aU (c6 (ab (aQ y0 (aa 1) (aQ A1 (aC (aa 0) ae (fun _ _=>rfl)) (aC (aa 0) ae (fun _ _=>rfl)))) (ab (aQ zp (aC (aa 0) ae (fun _ _=>rfl)) (aC (aa 0) ae (fun _ _=>rfl))) af))))) bQ) (aT (fZ rL.nd rfl (Or.inl rfl) (wX (bC (gC hr.units) (aM cZ rfl T.z_len PySem.boot_len (ab (aa 0) af)) ae (bJ _)) (aC (aa 0) ae (fun _ _=>rfl)) (aX C_vote_of hr (by decide) rfl (ab (aa 0) af) (ax bq)))) (aG (aU (c6 (ab (aQ y0 (aa 1) (aa 2)) (ab (aa 2) af)))))))),hm,F.kp,F.binds fun _ _ _ _ _ _ us hl=>match us,hl with | [_,_],_=>rfl⟩
noncomputable abbrev gr:Stmt:=top 9
noncomputable abbrev uQ:List Str:=[(Str.ofString "mask"),(Str.ofString "number")]
noncomputable def zf:{b:List Stmt // aq gr=b}:=by
 have e:aq gr=aq gr:=rfl
 conv at e=>rhs;whnf
 exact⟨_,e⟩
noncomputable def sk:{b:Scope // ah gr=b}:=by
 have e:ah gr=ah gr:=rfl
 conv at e=>rhs;whnf
 exact⟨_,e⟩
theorem Ca:ba uQ [(Str.ofString "mask"),(Str.ofString "number")] sk.1:=⟨rfl,rfl,rfl,by decide+kernel,rfl,by decide+kernel,by decide+kernel⟩
noncomputable def vB:FS:=(cJ (e2 Cm (e2 n4 (ag 0) (ag 1)) (eC (.int 1))))
noncomputable def f9:List D→R D:=lF uQ vB
theorem Ae{P:Program}{w:World}{K:PySem.W.Frag}{mg:Str→Option Value}{base:Heap}{cl:Nat→Addr}(T:Tp K mg cl)(h:Def K mg (Str.ofString "bit_at") gr):Callee P w K mg base 1 (Str.ofString "bit_at") 2 f9:=by
 obtain⟨f,fd,F,hm⟩:=h
 exact⟨f,fd,_,cj (k:=0) zf.2 sk.2 F Ca (fun cdv A outer s H E hr=>(aG (aU (aQ zp (aQ HI (aa 0) (aa 1)) ae)))),hm,F.kp,F.binds fun _ _ _ _ _ _ us hl=>match us,hl with | [_,_],_=>rfl⟩
noncomputable abbrev eY:Stmt:=top 10
noncomputable abbrev jZ:List Str:=[(Str.ofString "masks"),(Str.ofString "number")]
noncomputable def vU:{b:List Stmt // aq eY=b}:=by
 have e:aq eY=aq eY:=rfl
 conv at e=>rhs;whnf
 exact⟨_,e⟩
noncomputable def qk:{b:Scope // ah eY=b}:=by
 have e:ah eY=ah eY:=rfl
 conv at e=>rhs;whnf
 exact⟨_,e⟩
theorem y_:ba jZ [(Str.ofString "masks"),(Str.ofString "number")] qk.1:=⟨rfl,rfl,rfl,by decide+kernel,rfl,by decide+kernel,by decide+kernel⟩
noncomputable def sH:FS:=(cQ (jK (b2 iq (aA f9 (ao (e2 ck (ag 0) (eC (.int 0))) (ao (ag 1) aD))) (eC (.int 1))) (cJ (eC (.int 0))) eA) (cQ (jK (b2 iq (aA f9 (ao (e2 ck (ag 0) (eC (.int 1))) (ao (ag 1) aD))) (eC (.int 1))) (cJ (eC (.int 1))) eA) (cJ (eC .cI))))
noncomputable def fQ:List D→R D:=lF jZ sH
theorem zC{P:Program}{w:World}{K:PySem.W.Frag}{mg:Str→Option Value}{base:Heap}{cl:Nat→Addr}(T:Tp K mg cl)(h:Def K mg (Str.ofString "read_at") eY)(C_bit_at:Callee P w K mg base 1 (Str.ofString "bit_at") 2 f9):Callee P w K mg base 2 (Str.ofString "read_at") 2 fQ:=by
 obtain⟨f,fd,F,hm⟩:=h
 exact⟨f,fd,_,cj (k:=1) vU.2 qk.2 F y_ (fun cdv A outer s H E hr=>(aT (cg (bC (gC hr.units) (aX C_bit_at hr (by decide) rfl (ab (aC (aa 0) ae (fun _ _=>rfl)) (ab (aa 1) af)) (ax (ax bq))) ae (bJ _)) (aG (aU ae)) bQ) (aT (cg (bC (gC hr.units) (aX C_bit_at hr (by decide) rfl (ab (aC (aa 0) ae (fun _ _=>rfl)) (ab (aa 1) af)) (ax (ax bq))) ae (bJ _)) (aG (aU ae)) bQ) (aG (aU lA))))),hm,F.kp,F.binds fun _ _ _ _ _ _ us hl=>match us,hl with | [_,_],_=>rfl⟩
noncomputable abbrev kg:Stmt:=top 11
noncomputable abbrev BP:List Str:=[(Str.ofString "bits")]
noncomputable def CD:{b:List Stmt // aq kg=b}:=by
 have e:aq kg=aq kg:=rfl
 conv at e=>rhs;whnf
 exact⟨_,e⟩
noncomputable def yc:{b:Scope // ah kg=b}:=by
 have e:ah kg=ah kg:=rfl
 conv at e=>rhs;whnf
 exact⟨_,e⟩
theorem EM:ba BP [(Str.ofString "bits")] yc.1:=⟨rfl,rfl,rfl,by decide+kernel,rfl,by decide+kernel,by decide+kernel⟩
noncomputable def Fs:FS:=(cJ (aA fQ (ao (aA fS (ao (ag 0) (ao (eC (.int 1)) aD))) (ao (eC (.int 0)) aD))))
noncomputable def l0:List D→R D:=lF BP Fs
theorem F9{P:Program}{w:World}{K:PySem.W.Frag}{mg:Str→Option Value}{base:Heap}{cl:Nat→Addr}(T:Tp K mg cl)(h:Def K mg (Str.ofString "told") kg)(C_reading:Callee P w K mg base 2 (Str.ofString "reading") 2 fS)(C_read_at:Callee P w K mg base 2 (Str.ofString "read_at") 2 fQ):Callee P w K mg base 3 (Str.ofString "told") 1 l0:=by
 obtain⟨f,fd,F,hm⟩:=h
 exact⟨f,fd,_,cj (k:=2) CD.2 yc.2 F EM (fun cdv A outer s H E hr=>(aG (aU (aX C_read_at hr (by decide) rfl (ab (aX C_reading hr (by decide) rfl (ab (aa 0) (ab ae af)) (ax (ax bq))) (ab ae af)) (ax (ax bq)))))),hm,F.kp,F.binds fun _ _ _ _ _ _ us hl=>match us,hl with | [_],_=>rfl⟩
noncomputable abbrev c_:Stmt:=top 12
noncomputable abbrev iu:List Str:=[(Str.ofString "count"),(Str.ofString "inputs"),(Str.ofString "place"),(Str.ofString "longer"),(Str.ofString "bits")]
noncomputable def q9:{b:List Stmt // aq c_=b}:=by
 have e:aq c_=aq c_:=rfl
 conv at e=>rhs;whnf
 exact⟨_,e⟩
noncomputable def lR:{b:Scope // ah c_=b}:=by
 have e:ah c_=ah c_:=rfl
 conv at e=>rhs;whnf
 exact⟨_,e⟩
theorem e_:ba iu [(Str.ofString "count")] lR.1:=⟨rfl,rfl,rfl,by decide+kernel,rfl,by decide+kernel,by decide+kernel⟩
noncomputable def kG:FZ:=(bz (jJ 3 (xP (e2 lU (ag 4) (fA (ao (eC (.int 0)) aD))))) (jJ 3 (xP (e2 lU (ag 4) (fA (ao (eC (.int 1)) aD))))))
noncomputable def kJ:FZ:=(AO 1 (bz (cA 3 (lZ (dk aD))) (bz (kD (iP (eJ (ag 1))) (ky 4) kG) (cA 1 (bL 3)))))
noncomputable def j2:FZ:=(bz (cA 1 (lZ (dk (ao (fA aD) aD)))) (bz (kD (iP (ei (ag 0))) (ky 2) kJ) (iz (bL 1))))
noncomputable def lQ:List V3→aS→R3 V3:=mz iu j2
noncomputable def fH:List V3→aS→R3 V3:=nA iu j2
theorem t5{P:Program}{w:World}{K:PySem.W.Frag}{mg:Str→Option Value}{base:Heap}{cl:Nat→Addr}(T:Tp K mg cl)(h:Def K mg (Str.ofString "all_inputs") c_):aI P w K mg base cl 1 (Str.ofString "all_inputs") 1 lQ:=by
 obtain⟨f,fd,F,hm⟩:=h
 exact⟨f,fd,_,cC (k:=0) q9.2 lR.2 F e_ (fun cdv A outer s H E hr=>(av (bf e_.nd rfl (Or.inl rfl) (gK (bM (ab (c6 af) af)))) (av (fB PassesOwn.never rfl (dg (cx (aa 0) rfl T.z_range)) (bG e_.nd rfl (Or.inl rfl)) (C4 1 (av (bf e_.nd rfl (Or.inl rfl) (gK (bM af))) (av (fB PassesOwn.never rfl (dg (cR (aa 1))) (bG e_.nd rfl (Or.inl rfl)) (av (gI rfl (Or.inl rfl) (au (aQ qg (aa 4) (c6 (ab ae af))))) (aZ (gI rfl (Or.inl rfl) (au (aQ qg (aa 4) (c6 (ab ae af)))))))) (aZ (bf e_.nd rfl (Or.inl rfl) (aR 3))))))) (aZ (dm (aR 1)))))),hm,F.kp,F.binds fun _ _ _ _ _ _ us hl=>match us,hl with | [_],_=>rfl⟩
noncomputable abbrev eW:Stmt:=top 13
noncomputable abbrev n0:List Str:=[(Str.ofString "bits"),(Str.ofString "mask"),(Str.ofString "bit")]
noncomputable def wu:{b:List Stmt // aq eW=b}:=by
 have e:aq eW=aq eW:=rfl
 conv at e=>rhs;whnf
 exact⟨_,e⟩
noncomputable def pS:{b:Scope // ah eW=b}:=by
 have e:ah eW=ah eW:=rfl
 conv at e=>rhs;whnf
 exact⟨_,e⟩
theorem lJ:ba n0 [(Str.ofString "bits")] pS.1:=⟨rfl,rfl,rfl,by decide+kernel,rfl,by decide+kernel,by decide+kernel⟩
noncomputable def k7:FS:=(i3 1 (e2 dH (e2 lY (ag 1) (eC (.int 2))) (ag 2)))
noncomputable def rN:FS:=(cQ (i3 1 (eC (.int 0))) (cQ (nL (En (ag 0)) (bw 2) k7) (cJ (ag 1))))
noncomputable def fM:List D→R D:=lF n0 rN
theorem zD{P:Program}{w:World}{K:PySem.W.Frag}{mg:Str→Option Value}{base:Heap}{cl:Nat→Addr}(T:Tp K mg cl)(h:Def K mg (Str.ofString "mask_of") eW):Callee P w K mg base 1 (Str.ofString "mask_of") 1 fM:=by
 obtain⟨f,fd,F,hm⟩:=h
 exact⟨f,fd,_,cj (k:=0) wu.2 pS.2 F lJ (fun cdv A outer s H E hr=>(aT (fZ lJ.nd rfl (Or.inl rfl) ae) (aT (f_ PassesOwn.never rfl (Cd (aa 0) rfl T.z_reversed) (bx lJ.nd rfl (Or.inl rfl)) (aG (fZ lJ.nd rfl (Or.inl rfl) (aQ eu (aQ vC (aa 1) ae) (aa 2))))) (aG (aU (aa 1)))))),hm,F.kp,F.binds fun _ _ _ _ _ _ us hl=>match us,hl with | [_],_=>rfl⟩
noncomputable abbrev fk:Stmt:=top 14
noncomputable abbrev nK:List Str:=[(Str.ofString "inputs"),(Str.ofString "place")]
noncomputable def wZ:{b:List Stmt // aq fk=b}:=by
 have e:aq fk=aq fk:=rfl
 conv at e=>rhs;whnf
 exact⟨_,e⟩
noncomputable def mB:{b:Scope // ah fk=b}:=by
 have e:ah fk=ah fk:=rfl
 conv at e=>rhs;whnf
 exact⟨_,e⟩
theorem yC:ba nK [(Str.ofString "inputs"),(Str.ofString "place")] mB.1:=⟨rfl,rfl,rfl,by decide+kernel,rfl,by decide+kernel,by decide+kernel⟩
noncomputable def sd:FS:=(cJ (aA fM (ao (eNew (il (eJ (ag 0)) (bw 0) oW (e2 ck (ag 0) (ag 1)) [(Str.ofString "bits")] [1])) aD)))
noncomputable def iC:List D→R D:=lF nK sd
theorem zq{P:Program}{w:World}{K:PySem.W.Frag}{mg:Str→Option Value}{base:Heap}{cl:Nat→Addr}(T:Tp K mg cl)(h:Def K mg (Str.ofString "in_mask") fk)(C_mask_of:Callee P w K mg base 1 (Str.ofString "mask_of") 1 fM):Callee P w K mg base 2 (Str.ofString "in_mask") 2 iC:=by
 obtain⟨f,fd,F,hm⟩:=h
 exact⟨f,fd,_,cj (k:=1) wZ.2 mB.2 F yC (fun cdv A outer s H E hr=>(aG (aU (aX C_mask_of hr (by decide) rfl (ab (bY (fG rfl (cz.of (own:=[(Str.ofString "bits")]) (kp:=[1]) (kn:=[(Str.ofString "place")]) (sc:=mB.1) (N:=nK) rfl rfl (by decide+kernel)) (cR (aa 0)) (fun _ _ _=>(bx (show List.Nodup [(Str.ofString "bits"),(Str.ofString "place")] from by decide+kernel) rfl (Or.inl rfl))) (fun _ _ _=>eT) (fun _ _ _=>(aC (aa 0) (aa 1) (fun _ _=>rfl))))) af) (ax bq))))),hm,F.kp,F.binds fun _ _ _ _ _ _ us hl=>match us,hl with | [_,_],_=>rfl⟩
noncomputable abbrev bt:Stmt:=inClass (top 15) 0
noncomputable abbrev de:List Str:=[(Str.ofString "self"),(Str.ofString "net"),(Str.ofString "inputs")]
noncomputable def m6:{b:List Stmt // aq bt=b}:=by
 have e:aq bt=aq bt:=rfl
 conv at e=>rhs;whnf
 exact⟨_,e⟩
noncomputable def er:{b:Scope // ah bt=b}:=by
 have e:ah bt=ah bt:=rfl
 conv at e=>rhs;whnf
 exact⟨_,e⟩
theorem jX:ba de [(Str.ofString "self"),(Str.ofString "net")] er.1:=⟨rfl,rfl,rfl,by decide+kernel,rfl,by decide+kernel,by decide+kernel⟩
noncomputable def gG:FZ:=(bz (cA 2 (bU fH (ay (xP (aA cO (ao (e2 ck (ag 1) (eC (.int 0))) aD))) bW))) (bz (zr 0 (Str.ofString "net") (bL 0) (xP (ag 1))) (bz (zr 0 (Str.ofString "many_inputs") (bL 0) (xP (aA cO (ao (ag 2) aD)))) (bz (zr 0 (Str.ofString "full") (bL 0) (xP (aA fM (ao (eNew (il (eJ (ag 2)) (bw 0) oW (eC (.int 1)) [(Str.ofString "bits")] [])) aD)))) (zr 0 (Str.ofString "in_masks") (bL 0) (xP (eNew (il (ei (aA cO (ao (e2 ck (ag 1) (eC (.int 0))) aD))) (bw 0) oW (aA iC (ao (ag 1) (ao (ag 0) aD))) [(Str.ofString "place")] [2]))))))))
noncomputable def cf:List V3→aS→R3 V3:=mz de gG
noncomputable def xm:List V3→aS→R3 V3:=nA de gG
theorem dO{P:Program}{w:World}{K:PySem.W.Frag}{mg:Str→Option Value}{base:Heap}{cl:Nat→Addr}(T:Tp K mg cl)(h:EO K (cl 0) (Str.ofString "__init__") (Str.ofString "Bench.__init__") bt)(C_mask_of:Callee P w K mg base 1 (Str.ofString "mask_of") 1 fM)(C_in_mask:Callee P w K mg base 2 (Str.ofString "in_mask") 2 iC)(XP_all_inputs:aI P w K mg base cl 1 (Str.ofString "all_inputs") 1 fH):uB P w K mg base cl 3 0 (Str.ofString "Bench") 1 cf:=by
 obtain⟨f,fd,F,hm⟩:=h
 exact⟨f,fd,_,hm,cC (k:=2) m6.2 er.2 F jX (fun cdv A outer s H E hr=>(av (bf jX.nd rfl (Or.inr rfl) (bj XP_all_inputs hr (by decide) rfl (ai (au (aM cZ rfl T.z_len PySem.boot_len (ab (aC (aa 1) ae (fun _ _=>rfl)) af))) aO) (aj aK))) (av (tK T.C_Bench T.N_Bench_net (aR 0) (au (aa 1))) (av (tK T.C_Bench T.N_Bench_many_inputs (aR 0) (au (aM cZ rfl T.z_len PySem.boot_len (ab (aa 2) af)))) (av (tK T.C_Bench T.N_Bench_full (aR 0) (au (aX C_mask_of hr (by decide) rfl (ab (bY (fG rfl (cz.of (own:=[(Str.ofString "bits")]) (kp:=[]) (kn:=[]) (sc:=er.1) (N:=de) rfl rfl (by decide+kernel)) (cR (aa 2)) (fun _ _ _=>(bx (show List.Nodup [(Str.ofString "bits")] from by decide+kernel) rfl (Or.inl rfl))) (fun _ _ _=>eT) (fun _ _ _=>ae))) af) (ax bq)))) (aZ (tK T.C_Bench T.N_Bench_in_masks (aR 0) (au (bY (fG rfl (cz.of (own:=[(Str.ofString "place")]) (kp:=[2]) (kn:=[(Str.ofString "inputs")]) (sc:=er.1) (N:=de) rfl rfl (by decide+kernel)) (cx (aM cZ rfl T.z_len PySem.boot_len (ab (aC (aa 1) ae (fun _ _=>rfl)) af)) rfl T.z_range) (fun _ _ _=>(bx (show List.Nodup [(Str.ofString "place"),(Str.ofString "inputs")] from by decide+kernel) rfl (Or.inl rfl))) (fun _ _ _=>eT) (fun _ _ _=>(aX C_in_mask hr (by decide) rfl (ab (aa 1) (ab (aa 0) af)) (ax (ax bq)))))))))))))),T.M_Bench,F.binds fun _ _ _ _ _ _ us hl=>match us,hl with | [_,_],_=>rfl⟩
noncomputable abbrev bR:Stmt:=inClass (top 15) 1
noncomputable abbrev gP:List Str:=[(Str.ofString "self"),(Str.ofString "turned"),(Str.ofString "bad")]
noncomputable def qT:{b:List Stmt // aq bR=b}:=by
 have e:aq bR=aq bR:=rfl
 conv at e=>rhs;whnf
 exact⟨_,e⟩
noncomputable def kQ:{b:Scope // ah bR=b}:=by
 have e:ah bR=ah bR:=rfl
 conv at e=>rhs;whnf
 exact⟨_,e⟩
theorem rp:ba gP [(Str.ofString "self"),(Str.ofString "turned"),(Str.ofString "bad")] kQ.1:=⟨rfl,rfl,rfl,by decide+kernel,rfl,by decide+kernel,by decide+kernel⟩
noncomputable def jx:FZ:=(iz (bU gd (ay (tY 0 (Str.ofString "net") (bL 0)) (ay (bU fE (ay (tY 0 (Str.ofString "net") (bL 0)) (ay (tY 0 (Str.ofString "in_masks") (bL 0)) (ay (tY 0 (Str.ofString "full") (bL 0)) (ay (xP (ag 1)) (ay (xP (ag 2)) bW)))))) bW))))
noncomputable def kR:List V3→aS→R3 V3:=mz gP jx
noncomputable def eH:List V3→aS→R3 V3:=nA gP jx
theorem fF{P:Program}{w:World}{K:PySem.W.Frag}{mg:Str→Option Value}{base:Heap}{cl:Nat→Addr}(T:Tp K mg cl)(h:t9 K (cl 0) (Str.ofString "tells") (Str.ofString "Bench.tells") bR)(XP_out_masks:aI P w K mg base cl 2 (Str.ofString "out_masks") 2 gd)(XP_wire_masks:aI P w K mg base cl 3 (Str.ofString "wire_masks") 5 fE):g_ P w K mg base cl 4 0 (Str.ofString "tells") 2 kR:=by
 obtain⟨f,fd,F,hm⟩:=h
 exact⟨f,fd,_,T.C_Bench,hm,cC (k:=3) qT.2 kQ.2 F rp (fun cdv A outer s H E hr=>(aZ (dm (bj XP_out_masks hr (by decide) rfl (ai (l_ T.C_Bench T.N_Bench_net (aR 0)) (ai (bj XP_wire_masks hr (by decide) rfl (ai (l_ T.C_Bench T.N_Bench_net (aR 0)) (ai (l_ T.C_Bench T.N_Bench_in_masks (aR 0)) (ai (l_ T.C_Bench T.N_Bench_full (aR 0)) (ai (au (aa 1)) (ai (au (aa 2)) aO))))) (aj (aj (aj (aj (aj aK)))))) aO)) (aj (aj aK)))))),F.binds fun _ _ _ _ _ _ us hl=>match us,hl with | [_,_,_],_=>rfl⟩
noncomputable abbrev bu:Stmt:=inClass (top 15) 2
noncomputable abbrev dM:List Str:=[(Str.ofString "self"),(Str.ofString "turned")]
noncomputable def mW:{b:List Stmt // aq bu=b}:=by
 have e:aq bu=aq bu:=rfl
 conv at e=>rhs;whnf
 exact⟨_,e⟩
noncomputable def fY:{b:Scope // ah bu=b}:=by
 have e:ah bu=ah bu:=rfl
 conv at e=>rhs;whnf
 exact⟨_,e⟩
theorem nH:ba dM [(Str.ofString "self"),(Str.ofString "turned")] fY.1:=⟨rfl,rfl,rfl,by decide+kernel,rfl,by decide+kernel,by decide+kernel⟩
noncomputable def gH:FZ:=(iz (jO (Au (rD 0 (Str.ofString "tells") eH (bL 0) (ay (xP (ag 1)) (ay (xP (fA aD)) bW)))) (ky 0) uW (nR fS (ay (xP (ag 0)) (ay (tY 0 (Str.ofString "full") (bL 1)) bW))) [(Str.ofString "masks")] [0]))
noncomputable def i9:List V3→aS→R3 V3:=mz dM gH
noncomputable def cF:List V3→aS→R3 V3:=nA dM gH
theorem dN{P:Program}{w:World}{K:PySem.W.Frag}{mg:Str→Option Value}{base:Heap}{cl:Nat→Addr}(T:Tp K mg cl)(h:t9 K (cl 0) (Str.ofString "readings") (Str.ofString "Bench.readings") bu)(C_reading:Callee P w K mg base 2 (Str.ofString "reading") 2 fS)(XP_Bench_tells:g_ P w K mg base cl 4 0 (Str.ofString "tells") 2 eH):g_ P w K mg base cl 5 0 (Str.ofString "readings") 1 i9:=by
 obtain⟨f,fd,F,hm⟩:=h
 exact⟨f,fd,_,T.C_Bench,hm,cC (k:=4) mW.2 fY.2 F nH (fun cdv A outer s H E hr=>(aZ (dm (ny rfl (cz.of (own:=[(Str.ofString "masks")]) (kp:=[0]) (kn:=[(Str.ofString "self")]) (sc:=fY.1) (N:=dM) rfl rfl (by decide+kernel)) (s_ (pF XP_Bench_tells hr (by decide) (aR 0) (ai (au (aa 1)) (ai (au (c6 af)) aO)) (aj (aj aK)))) (fun _ _ _=>(bG (show List.Nodup [(Str.ofString "masks"),(Str.ofString "self")] from by decide+kernel) rfl (Or.inl rfl))) (fun _ _ _=>iI) (fun _ _ _=>(Cb C_reading hr (by decide) rfl (ai (au (aa 0)) (ai (l_ T.C_Bench T.N_Bench_full (aR 1)) aO)) (aj (aj aK)))))))),F.binds fun _ _ _ _ _ _ us hl=>match us,hl with | [_,_],_=>rfl⟩
noncomputable abbrev dY:Stmt:=top 16
noncomputable abbrev iT:List Str:=[(Str.ofString "net"),(Str.ofString "bench")]
noncomputable def uw:{b:List Stmt // aq dY=b}:=by
 have e:aq dY=aq dY:=rfl
 conv at e=>rhs;whnf
 exact⟨_,e⟩
noncomputable def kU:{b:Scope // ah dY=b}:=by
 have e:ah dY=ah dY:=rfl
 conv at e=>rhs;whnf
 exact⟨_,e⟩
theorem qP:ba iT [(Str.ofString "net")] kU.1:=⟨rfl,rfl,rfl,by decide+kernel,rfl,by decide+kernel,by decide+kernel⟩
noncomputable def my:FZ:=(bz (cA 1 (xJ 0 cf (ay (xP (ag 0)) bW))) (iz (nR Fu (ay (jO (Au (rD 0 (Str.ofString "readings") cF (bL 1) (ay (xP (fA aD)) bW))) (ky 0) uW (x2 iq (xP (e2 EE (e2 ck (ag 0) (eC (.int 0))) (e2 ck (ag 0) (eC (.int 1))))) (tY 0 (Str.ofString "full") (bL 1))) [(Str.ofString "masks")] [1]) bW))))
noncomputable def oj:List V3→aS→R3 V3:=mz iT my
noncomputable def ji:List V3→aS→R3 V3:=nA iT my
theorem wb{P:Program}{w:World}{K:PySem.W.Frag}{mg:Str→Option Value}{base:Heap}{cl:Nat→Addr}(T:Tp K mg cl)(h:Def K mg (Str.ofString "is_sound") dY)(XK_Bench___init__:uB P w K mg base cl 3 0 (Str.ofString "Bench") 1 cf)(XP_Bench_readings:g_ P w K mg base cl 5 0 (Str.ofString "readings") 1 cF):aI P w K mg base cl 6 (Str.ofString "is_sound") 1 oj:=by
 obtain⟨f,fd,F,hm⟩:=h
 exact⟨f,fd,_,cC (k:=5) uw.2 kU.2 F qP (fun cdv A outer s H E hr=>(av (bf qP.nd rfl (Or.inr rfl) (xl XK_Bench___init__ hr (by decide) rfl (ai (au (aa 0)) aO) (aj aK))) (aZ (dm (AX (G9 rfl) rfl T.z_all PyProof.Rows.boot_all (ai (ny rfl (cz.of (own:=[(Str.ofString "masks")]) (kp:=[1]) (kn:=[(Str.ofString "bench")]) (sc:=kU.1) (N:=iT) rfl rfl (by decide+kernel)) (s_ (pF XP_Bench_readings hr (by decide) (aR 1) (ai (au (c6 af)) aO) (aj aK))) (fun _ _ _=>(bG (show List.Nodup [(Str.ofString "masks"),(Str.ofString "bench")] from by decide+kernel) rfl (Or.inl rfl))) (fun _ _ _=>iI) (fun _ _ _=>(wV (gC hr.units) (au (aQ A1 (aC (aa 0) ae (fun _ _=>rfl)) (aC (aa 0) ae (fun _ _=>rfl)))) (l_ T.C_Bench T.N_Bench_full (aR 1)) (bJ _)))) aO)))))),hm,F.kp,F.binds fun _ _ _ _ _ _ us hl=>match us,hl with | [_],_=>rfl⟩
noncomputable abbrev bF:Stmt:=inClass (top 15) 3
noncomputable abbrev eL:List Str:=[(Str.ofString "self"),(Str.ofString "masks")]
noncomputable def pq:{b:List Stmt // aq bF=b}:=by
 have e:aq bF=aq bF:=rfl
 conv at e=>rhs;whnf
 exact⟨_,e⟩
noncomputable def ic:{b:Scope // ah bF=b}:=by
 have e:ah bF=ah bF:=rfl
 conv at e=>rhs;whnf
 exact⟨_,e⟩
theorem pQ:ba eL [(Str.ofString "self"),(Str.ofString "masks")] ic.1:=⟨rfl,rfl,rfl,by decide+kernel,rfl,by decide+kernel,by decide+kernel⟩
noncomputable def iW:FZ:=(iz (tO (lS (tY 0 (Str.ofString "many_inputs") (bL 0))) (ky 0) uW (xP (aA fQ (ao (ag 1) (ao (ag 0) aD)))) [(Str.ofString "number")] [1]))
noncomputable def dq:List V3→aS→R3 V3:=mz eL iW
noncomputable def oU:List V3→aS→R3 V3:=nA eL iW
theorem eI{P:Program}{w:World}{K:PySem.W.Frag}{mg:Str→Option Value}{base:Heap}{cl:Nat→Addr}(T:Tp K mg cl)(h:t9 K (cl 0) (Str.ofString "column") (Str.ofString "Bench.column") bF)(C_read_at:Callee P w K mg base 2 (Str.ofString "read_at") 2 fQ):g_ P w K mg base cl 3 0 (Str.ofString "column") 1 dq:=by
 obtain⟨f,fd,F,hm⟩:=h
 exact⟨f,fd,_,T.C_Bench,hm,cC (k:=2) pq.2 ic.2 F pQ (fun cdv A outer s H E hr=>(aZ (dm (BE rfl (cz.of (own:=[(Str.ofString "number")]) (kp:=[1]) (kn:=[(Str.ofString "masks")]) (sc:=ic.1) (N:=eL) rfl rfl (by decide+kernel)) (gE (l_ T.C_Bench T.N_Bench_many_inputs (aR 0)) rfl T.z_range) (fun _ _ _=>(bG (show List.Nodup [(Str.ofString "number"),(Str.ofString "masks")] from by decide+kernel) rfl (Or.inl rfl))) (fun _ _ _=>iI) (fun _ _ _=>(au (aX C_read_at hr (by decide) rfl (ab (aa 1) (ab (aa 0) af)) (ax (ax bq))))))))),F.binds fun _ _ _ _ _ _ us hl=>match us,hl with | [_,_],_=>rfl⟩
noncomputable abbrev eX:Stmt:=top 17
noncomputable abbrev iH:List Str:=[(Str.ofString "net"),(Str.ofString "bench")]
noncomputable def wz:{b:List Stmt // aq eX=b}:=by
 have e:aq eX=aq eX:=rfl
 conv at e=>rhs;whnf
 exact⟨_,e⟩
noncomputable def l9:{b:Scope // ah eX=b}:=by
 have e:ah eX=ah eX:=rfl
 conv at e=>rhs;whnf
 exact⟨_,e⟩
theorem sv:ba iH [(Str.ofString "net")] l9.1:=⟨rfl,rfl,rfl,by decide+kernel,rfl,by decide+kernel,by decide+kernel⟩
noncomputable def lq:FZ:=(bz (cA 1 (xJ 0 cf (ay (xP (ag 0)) bW))) (iz (jO (Au (rD 0 (Str.ofString "readings") cF (bL 1) (ay (xP (fA aD)) bW))) (ky 0) uW (rD 0 (Str.ofString "column") dq (bL 1) (ay (xP (ag 0)) bW)) [(Str.ofString "masks")] [1])))
noncomputable def iO:List V3→aS→R3 V3:=mz iH lq
noncomputable def j8:List V3→aS→R3 V3:=nA iH lq
theorem yB{P:Program}{w:World}{K:PySem.W.Frag}{mg:Str→Option Value}{base:Heap}{cl:Nat→Addr}(T:Tp K mg cl)(h:Def K mg (Str.ofString "columns") eX)(XK_Bench___init__:uB P w K mg base cl 3 0 (Str.ofString "Bench") 1 cf)(XP_Bench_readings:g_ P w K mg base cl 5 0 (Str.ofString "readings") 1 cF)(XK_Bench_column:g_ P w K mg base cl 3 0 (Str.ofString "column") 1 dq):aI P w K mg base cl 6 (Str.ofString "columns") 1 iO:=by
 obtain⟨f,fd,F,hm⟩:=h
 exact⟨f,fd,_,cC (k:=5) wz.2 l9.2 F sv (fun cdv A outer s H E hr=>(av (bf sv.nd rfl (Or.inr rfl) (xl XK_Bench___init__ hr (by decide) rfl (ai (au (aa 0)) aO) (aj aK))) (aZ (dm (ny rfl (cz.of (own:=[(Str.ofString "masks")]) (kp:=[1]) (kn:=[(Str.ofString "bench")]) (sc:=l9.1) (N:=iH) rfl rfl (by decide+kernel)) (s_ (pF XP_Bench_readings hr (by decide) (aR 1) (ai (au (c6 af)) aO) (aj aK))) (fun _ _ _=>(bG (show List.Nodup [(Str.ofString "masks"),(Str.ofString "bench")] from by decide+kernel) rfl (Or.inl rfl))) (fun _ _ _=>iI) (fun _ _ _=>(pF XK_Bench_column hr (by decide) (aR 1) (ai (au (aa 0)) aO) (aj aK)))))))),hm,F.kp,F.binds fun _ _ _ _ _ _ us hl=>match us,hl with | [_],_=>rfl⟩
noncomputable abbrev cN:Stmt:=top 19
noncomputable abbrev jE:List Str:=[(Str.ofString "script"),(Str.ofString "k")]
noncomputable def qM:{b:List Stmt // aq cN=b}:=by
 have e:aq cN=aq cN:=rfl
 conv at e=>rhs;whnf
 exact⟨_,e⟩
noncomputable def kE:{b:Scope // ah cN=b}:=by
 have e:ah cN=ah cN:=rfl
 conv at e=>rhs;whnf
 exact⟨_,e⟩
theorem qX:ba jE [(Str.ofString "script"),(Str.ofString "k")] kE.1:=⟨rfl,rfl,rfl,by decide+kernel,rfl,by decide+kernel,by decide+kernel⟩
noncomputable def jv:FS:=(cQ (jK (b2 zF (ag 1) (aA cO (ao (ag 0) aD))) (cJ (e2 ck (ag 0) (ag 1))) eA) (cJ (eC (.int 0))))
noncomputable def eh:List D→R D:=lF jE jv
theorem rA{P:Program}{w:World}{K:PySem.W.Frag}{mg:Str→Option Value}{base:Heap}{cl:Nat→Addr}(T:Tp K mg cl)(h:Def K mg (Str.ofString "_law_cell_at") cN):Callee P w K mg base 1 (Str.ofString "_law_cell_at") 2 eh:=by
 obtain⟨f,fd,F,hm⟩:=h
 exact⟨f,fd,_,cj (k:=0) qM.2 kE.2 F qX (fun cdv A outer s H E hr=>(aT (cg (bC HE (aa 1) (aM cZ rfl T.z_len PySem.boot_len (ab (aa 0) af)) (bJ _)) (aG (aU (aC (aa 0) (aa 1) (fun _ _=>rfl)))) bQ) (aG (aU ae)))),hm,F.kp,F.binds fun _ _ _ _ _ _ us hl=>match us,hl with | [_,_],_=>rfl⟩
noncomputable abbrev d_:Stmt:=top 20
noncomputable abbrev km:List Str:=[(Str.ofString "cell")]
noncomputable def ve:{b:List Stmt // aq d_=b}:=by
 have e:aq d_=aq d_:=rfl
 conv at e=>rhs;whnf
 exact⟨_,e⟩
noncomputable def n_:{b:Scope // ah d_=b}:=by
 have e:ah d_=ah d_:=rfl
 conv at e=>rhs;whnf
 exact⟨_,e⟩
theorem vJ:ba km [(Str.ofString "cell")] n_.1:=⟨rfl,rfl,rfl,by decide+kernel,rfl,by decide+kernel,by decide+kernel⟩
noncomputable def mD:FZ:=(iz (lZ (dk (ao (aA cAbs (ao (ag 0) aD)) (ao (e2 g9 (e2 lY (e2 dH (e2 g9 (ag 0) (eC (.int 2147483647))) (eC (.int 1))) (eC (.int 742938285))) (eC (.int 2147483647))) aD)))))
noncomputable def eG:List V3→aS→R3 V3:=mz km mD
noncomputable def vv:List V3→aS→R3 V3:=nA km mD
theorem vV{P:Program}{w:World}{K:PySem.W.Frag}{mg:Str→Option Value}{base:Heap}{cl:Nat→Addr}(T:Tp K mg cl)(h:Def K mg (Str.ofString "_law_reel") d_):aI P w K mg base cl 1 (Str.ofString "_law_reel") 1 eG:=by
 obtain⟨f,fd,F,hm⟩:=h
 exact⟨f,fd,_,cC (k:=0) ve.2 n_.2 F vJ (fun cdv A outer s H E hr=>(aZ (dm (gK (bM (ab (aM HR rfl T.z_abs PyProof.Rows.boot_abs (ab (aa 0) af)) (ab (aQ kx (aQ vC (aQ eu (aQ kx (aa 0) ae) ae) ae) ae) af))))))),hm,F.kp,F.binds fun _ _ _ _ _ _ us hl=>match us,hl with | [_],_=>rfl⟩
noncomputable abbrev dS:Stmt:=top 21
noncomputable abbrev kq:List Str:=[(Str.ofString "reel"),(Str.ofString "many"),(Str.ofString "found"),(Str.ofString "stir")]
noncomputable def vj:{b:List Stmt // aq dS=b}:=by
 have e:aq dS=aq dS:=rfl
 conv at e=>rhs;whnf
 exact⟨_,e⟩
noncomputable def oQ:{b:Scope // ah dS=b}:=by
 have e:ah dS=ah dS:=rfl
 conv at e=>rhs;whnf
 exact⟨_,e⟩
theorem l5:ba kq [(Str.ofString "reel"),(Str.ofString "many")] oQ.1:=⟨rfl,rfl,rfl,by decide+kernel,rfl,by decide+kernel,by decide+kernel⟩
noncomputable def mr:FZ:=(bz (yF (bT (b2 Cg (e2 ck (ag 0) (eC (.int 0))) (e2 qt (eC (.int 10)) (eC (.int 18))))) (bz (cA 2 (xT (e2 g9 (e2 ck (ag 0) (eC (.int 0))) (ag 1)))) (bz (we (bL 0) (xP (eC (.int 0))) (xT (e2 vh (e2 ck (ag 0) (eC (.int 0))) (ag 1)))) (iz (xP (ag 2))))) pj) (bz (we (bL 0) (xP (eC (.int 1))) (xT (e2 g9 (e2 dH (e2 lY (e2 ck (ag 0) (eC (.int 1))) (eC (.int 48271))) (eC (.int 11))) (eC (.int 2147483647))))) (bz (cA 3 (xT (e2 g9 (e2 lY (e2 ck (ag 0) (eC (.int 1))) (e2 ck (ag 0) (eC (.int 1)))) (eC (.int 2147483629))))) (iz (xP (e2 g9 (e2 vh (e2 g9 (e2 lY (ag 3) (eC (.int 69621))) (eC (.int 2147483587))) (eC (.int 8))) (ag 1)))))))
noncomputable def oG:List V3→aS→R3 V3:=mz kq mr
noncomputable def az:List V3→aS→R3 V3:=nA kq mr
theorem w6{P:Program}{w:World}{K:PySem.W.Frag}{mg:Str→Option Value}{base:Heap}{cl:Nat→Addr}(T:Tp K mg cl)(h:Def K mg (Str.ofString "_law_take") dS):aI P w K mg base cl 1 (Str.ofString "_law_take") 2 oG:=by
 obtain⟨f,fd,F,hm⟩:=h
 exact⟨f,fd,_,cC (k:=0) vj.2 oQ.2 F l5 (fun cdv A outer s H E hr=>(av (ng (iR (bC JW (aC (aa 0) ae (fun _ _=>rfl)) (aQ Eo ae ae) (bJ _))) (av (bf l5.nd rfl (Or.inl rfl) (cB (aQ kx (aC (aa 0) ae (fun _ _=>rfl)) (aa 1)))) (av (tF (cB (aQ z8 (aC (aa 0) ae (fun _ _=>rfl)) (aa 1))) (tM (PX.go (aR 0)) (PX.go (au ae)) set_list)) (aZ (dm (au (aa 2)))))) jo) (av (tF (cB (aQ kx (aQ eu (aQ vC (aC (aa 0) ae (fun _ _=>rfl)) ae) ae) ae)) (tM (PX.go (aR 0)) (PX.go (au ae)) set_list)) (av (bf l5.nd rfl (Or.inl rfl) (cB (aQ kx (aQ vC (aC (aa 0) ae (fun _ _=>rfl)) (aC (aa 0) ae (fun _ _=>rfl))) ae))) (aZ (dm (au (aQ kx (aQ z8 (aQ kx (aQ vC (aa 3) ae) ae) ae) (aa 1))))))))),hm,F.kp,F.binds fun _ _ _ _ _ _ us hl=>match us,hl with | [_,_],_=>rfl⟩
noncomputable abbrev dA:Stmt:=top 22
noncomputable abbrev jd:List Str:=[(Str.ofString "reel"),(Str.ofString "many"),(Str.ofString "letters"),(Str.ofString "words"),(Str.ofString "names"),(Str.ofString "k"),(Str.ofString "name"),(Str.ofString "j")]
noncomputable def tJ:{b:List Stmt // aq dA=b}:=by
 have e:aq dA=aq dA:=rfl
 conv at e=>rhs;whnf
 exact⟨_,e⟩
noncomputable def mO:{b:Scope // ah dA=b}:=by
 have e:ah dA=ah dA:=rfl
 conv at e=>rhs;whnf
 exact⟨_,e⟩
theorem dt:ba jd [(Str.ofString "reel"),(Str.ofString "many")] mO.1:=⟨rfl,rfl,rfl,by decide+kernel,rfl,by decide+kernel,by decide+kernel⟩
noncomputable def lW:FZ:=(cA 6 (x2 dH (xP (ag 6)) (yQ (xP (ag 2)) (bU az (ay (bL 0) (ay (xP (eC (.int 26))) bW))))))
noncomputable def gS:FZ:=(cA 6 (xP (e2 dH (rS (ag 6) g8 (gn (GP (eC (.int 1))))) (e2 ck (ag 2) (e2 g9 (e2 dH (yJ "str" xY (ag 2) (ao (e2 ck (ag 6) (GP (eC (.int 1)))) aD)) (eC (.int 1))) (eC (.int 26)))))))
noncomputable def jz:FZ:=(bz (cA 6 (yQ (xP (e2 dH (eNew (dk (ao (eC (.str (Str.ofString ""))) (ao (eC (.str (Str.ofString ""))) (ao (eC (.str (Str.ofString "zz"))) (ao (eC (.str (Str.ofString "qrst"))) aD)))))) (ag 3))) (bU az (ay (bL 0) (ay (xP (eC (.int 13))) bW))))) (bz (kD (lS (x2 dH (xP (eC (.int 1))) (bU az (ay (bL 0) (ay (xP (eC (.int 4))) bW))))) (ky 7) lW) (bz (wc 1000 (bT (so (b2 pd (ag 6) (ag 4)) (b2 pd (ag 6) (ag 3)))) gS) (jJ 4 (xP (ag 6))))))
noncomputable def kW:FZ:=(bz (cA 2 (xP (eC (.str (Str.ofString "abcdefghijklmnopqrstuvwxyz"))))) (bz (cA 3 (xP (eNew (dk (ao (eC (.str (Str.ofString "in"))) (ao (eC (.str (Str.ofString "gate"))) (ao (eC (.str (Str.ofString "sure"))) (ao (eC (.str (Str.ofString "out"))) (ao (eC (.str (Str.ofString "not"))) (ao (eC (.str (Str.ofString "and"))) (ao (eC (.str (Str.ofString "or"))) (ao (eC (.str (Str.ofString "xor"))) (ao (eC (.str (Str.ofString "vote"))) aD))))))))))))) (bz (cA 4 (lZ (dk aD))) (bz (kD (iP (ei (ag 1))) (ky 5) jz) (iz (bL 4))))))
noncomputable def mQ:List V3→aS→R3 V3:=mz jd kW
noncomputable def f7:List V3→aS→R3 V3:=nA jd kW
theorem vc{P:Program}{w:World}{K:PySem.W.Frag}{mg:Str→Option Value}{base:Heap}{cl:Nat→Addr}(T:Tp K mg cl)(h:Def K mg (Str.ofString "_law_names") dA)(XP_law_take:aI P w K mg base cl 1 (Str.ofString "_law_take") 2 az):aI P w K mg base cl 2 (Str.ofString "_law_names") 2 mQ:=by
 obtain⟨f,fd,F,hm⟩:=h
 exact⟨f,fd,_,cC (k:=1) tJ.2 mO.2 F dt (fun cdv A outer s H E hr=>(av (bf dt.nd rfl (Or.inl rfl) (au bK)) (av (bf dt.nd rfl (Or.inl rfl) (au (bY (bM (ab bK (ab bK (ab bK (ab bK (ab bK (ab bK (ab bK (ab bK (ab bK af))))))))))))) (av (bf dt.nd rfl (Or.inl rfl) (gK (bM af))) (av (fB PassesOwn.never rfl (dg (cx (aa 1) rfl T.z_range)) (bG dt.nd rfl (Or.inl rfl)) (av (bf dt.nd rfl (Or.inl rfl) (mP (au (aQ eu (bY (bM (ab bK (ab bK (ab bK (ab bK af)))))) (aa 3))) (bj XP_law_take hr (by decide) rfl (ai (aR 0) (ai (au ae) aO)) (aj (aj aK))) (fun _ _=>rfl))) (av (fB PassesOwn.never rfl (gE (oC eu (au ae) (bj XP_law_take hr (by decide) rfl (ai (aR 0) (ai (au ae) aO)) (aj (aj aK)))) rfl T.z_range) (bG dt.nd rfl (Or.inl rfl)) (aZ (bf dt.nd rfl (Or.inl rfl) (oC eu (au (aa 6)) (mP (au (aa 2)) (bj XP_law_take hr (by decide) rfl (ai (aR 0) (ai (au ae) aO)) (aj (aj aK))) (fun _ _=>rfl)))))) (av (Bg 1000 PassesOwn.never (iR (j5 (pH (bC yZ (aa 6) (aa 4) (by with_unfolding_all rfl)) (mM (bC yZ (aa 6) (aa 3) (by with_unfolding_all rfl)))))) (aZ (bf dt.nd rfl (Or.inl rfl) (au (aQ eu (kL (aa 6) iY (gg (yi ae))) (aC (aa 2) (aQ kx (aQ eu (AH (aa 2) (ab (aC (aa 6) (yi ae) (fun _ _=>rfl)) af)) ae) ae) (fun _ _=>rfl))))))) (aZ (gI rfl (Or.inl rfl) (au (aa 6)))))))) (aZ (dm (aR 4)))))))),hm,F.kp,F.binds fun _ _ _ _ _ _ us hl=>match us,hl with | [_,_],_=>rfl⟩
noncomputable abbrev dW:Stmt:=top 23
noncomputable abbrev kf:List Str:=[(Str.ofString "reel"),(Str.ofString "kinds"),(Str.ofString "most_sure"),(Str.ofString "kind"),(Str.ofString "many"),(Str.ofString "wires"),(Str.ofString "k"),(Str.ofString "back"),(Str.ofString "wire")]
noncomputable def u0:{b:List Stmt // aq dW=b}:=by
 have e:aq dW=aq dW:=rfl
 conv at e=>rhs;whnf
 exact⟨_,e⟩
noncomputable def oH:{b:Scope // ah dW=b}:=by
 have e:ah dW=ah dW:=rfl
 conv at e=>rhs;whnf
 exact⟨_,e⟩
theorem eM:ba kf [(Str.ofString "reel"),(Str.ofString "kinds"),(Str.ofString "most_sure")] oH.1:=⟨rfl,rfl,rfl,by decide+kernel,rfl,by decide+kernel,by decide+kernel⟩
noncomputable def nv:FZ:=(bz (cA 7 (bU az (ay (bL 0) (ay (xP (eC (.int 2))) bW)))) (bz (cA 8 (bU az (ay (bL 0) (ay (xT (aA cO (ao (ag 1) aD))) bW)))) (bz (yF (bP (b2 iq (ag 7) (eC (.int 1)))) (cA 8 (xT (e2 iZ (e2 iZ (aA cO (ao (ag 1) aD)) (eC (.int 1))) (e2 g9 (ag 8) (aA oS (ao (aA cO (ao (ag 1) aD)) (ao (eC (.int 4)) aD))))))) pj) (jJ 5 (xP (ag 8))))))
noncomputable def me:FZ:=(bz (cA 3 (yQ (xP (eNew (dk (ao (eC (.str (Str.ofString "not"))) (ao (eC (.str (Str.ofString "and"))) (ao (eC (.str (Str.ofString "or"))) (ao (eC (.str (Str.ofString "xor"))) (ao (eC (.str (Str.ofString "vote"))) (ao (eC (.str (Str.ofString "xor"))) (ao (eC (.str (Str.ofString "and"))) aD)))))))))) (bU az (ay (bL 0) (ay (xP (eC (.int 7))) bW))))) (bz (cA 4 (xP (GS [((Sum.inr (Str.ofString "not"):Key),V.int 1),((Sum.inr (Str.ofString "vote"):Key),V.int 3)] (ag 3) (eC (.int 2))))) (bz (cA 5 (lZ (dk aD))) (bz (kD (iP (ei (ag 4))) (ky 6) nv) (iz (uq (ay (xP (ag 3)) (ay (xT (aA fK (ao (ag 5) aD))) (ay (x2 zF (bU az (ay (bL 0) (ay (xP (eC (.int 4))) bW))) (xP (ag 2))) bW)))))))))
noncomputable def oq:List V3→aS→R3 V3:=mz kf me
noncomputable def fW:List V3→aS→R3 V3:=nA kf me
theorem vY{P:Program}{w:World}{K:PySem.W.Frag}{mg:Str→Option Value}{base:Heap}{cl:Nat→Addr}(T:Tp K mg cl)(h:Def K mg (Str.ofString "_law_gate") dW)(XP_law_take:aI P w K mg base cl 1 (Str.ofString "_law_take") 2 az):aI P w K mg base cl 2 (Str.ofString "_law_gate") 3 oq:=by
 obtain⟨f,fd,F,hm⟩:=h
 exact⟨f,fd,_,cC (k:=1) u0.2 oH.2 F eM (fun cdv A outer s H E hr=>(av (bf eM.nd rfl (Or.inl rfl) (mP (au (bY (bM (ab bK (ab bK (ab bK (ab bK (ab bK (ab bK (ab bK af)))))))))) (bj XP_law_take hr (by decide) rfl (ai (aR 0) (ai (au ae) aO)) (aj (aj aK))) (fun _ _=>rfl))) (av (bf eM.nd rfl (Or.inl rfl) (au (CN (Hk hr) (mN pZ qD (mN pZ qD yj)) rfl rfl (by simp) (fun _ _ _ h=>h) (by decide) (aa 3) ae ⟨rfl,rfl,rfl,rfl⟩ (DJ (mN pZ qD (mN pZ qD yj)) rfl rfl (by simp) (by decide))))) (av (bf eM.nd rfl (Or.inl rfl) (gK (bM af))) (av (fB PassesOwn.never rfl (dg (cx (aa 4) rfl T.z_range)) (bG eM.nd rfl (Or.inl rfl)) (av (bf eM.nd rfl (Or.inl rfl) (bj XP_law_take hr (by decide) rfl (ai (aR 0) (ai (au ae) aO)) (aj (aj aK)))) (av (bf eM.nd rfl (Or.inl rfl) (bj XP_law_take hr (by decide) rfl (ai (aR 0) (ai (cB (aM cZ rfl T.z_len PySem.boot_len (ab (aa 1) af))) aO)) (aj (aj aK)))) (av (ng (mU (bC (gC hr.units) (aa 7) ae (bJ _))) (aZ (bf eM.nd rfl (Or.inl rfl) (cB (aQ kO (aQ kO (aM cZ rfl T.z_len PySem.boot_len (ab (aa 1) af)) ae) (aQ kx (aa 8) (aM (v_ rfl) rfl T.z_min PyProof.Rows.boot_min (ab (aM cZ rfl T.z_len PySem.boot_len (ab (aa 1) af)) (ab ae af)))))))) jo) (aZ (gI rfl (Or.inl rfl) (au (aa 8)))))))) (aZ (dm (nD (ai (au (aa 3)) (ai (cB (cY pz rfl T.z_tuple PyProof.Rows.boot_tuple (ab (aa 5) af))) (ai (wV HE (bj XP_law_take hr (by decide) rfl (ai (aR 0) (ai (au ae) aO)) (aj (aj aK))) (au (aa 2)) (bJ _)) aO))))))))))),hm,F.kp,F.binds fun _ _ _ _ _ _ us hl=>match us,hl with | [_,_,_],_=>rfl⟩
noncomputable abbrev dw:Stmt:=top 24
noncomputable abbrev gW:List Str:=[(Str.ofString "reel"),(Str.ofString "gate"),(Str.ofString "kinds"),(Str.ofString "wires"),(Str.ofString "wire"),(Str.ofString "same")]
noncomputable def tU:{b:List Stmt // aq dw=b}:=by
 have e:aq dw=aq dw:=rfl
 conv at e=>rhs;whnf
 exact⟨_,e⟩
noncomputable def j7:{b:Scope // ah dw=b}:=by
 have e:ah dw=ah dw:=rfl
 conv at e=>rhs;whnf
 exact⟨_,e⟩
theorem jh:ba gW [(Str.ofString "reel"),(Str.ofString "gate"),(Str.ofString "kinds")] j7.1:=⟨rfl,rfl,rfl,by decide+kernel,rfl,by decide+kernel,by decide+kernel⟩
noncomputable def lT:FZ:=(bz (cA 5 (jO (lS (xT (aA cO (ao (ag 2) aD)))) (ky 0) (bT (b2 iq (e2 ck (ag 1) (ag 0)) (e2 ck (ag 1) (ag 2)))) (xP (ag 0)) [(Str.ofString "one")] [2,4])) (jJ 3 (yQ (xP (ag 5)) (bU az (ay (bL 0) (ay (xP (aA cO (ao (ag 5) aD))) bW))))))
noncomputable def kT:FZ:=(bz (cA 3 (lZ (dk aD))) (bz (kD (iP (eJ (e2 ck (ag 1) (eC (.int 1))))) (ky 4) lT) (iz (uq (ay (xP (e2 ck (ag 1) (eC (.int 0)))) (ay (xT (aA fK (ao (ag 3) aD))) (ay (x2 iq (bU az (ay (bL 0) (ay (xP (eC (.int 4))) bW))) (xP (eC (.int 0)))) bW)))))))
noncomputable def mZ:List V3→aS→R3 V3:=mz gW kT
noncomputable def gf:List V3→aS→R3 V3:=nA gW kT
theorem uj{P:Program}{w:World}{K:PySem.W.Frag}{mg:Str→Option Value}{base:Heap}{cl:Nat→Addr}(T:Tp K mg cl)(h:Def K mg (Str.ofString "_law_again") dw)(XP_law_take:aI P w K mg base cl 1 (Str.ofString "_law_take") 2 az):aI P w K mg base cl 2 (Str.ofString "_law_again") 3 mZ:=by
 obtain⟨f,fd,F,hm⟩:=h
 exact⟨f,fd,_,cC (k:=1) tU.2 j7.2 F jh (fun cdv A outer s H E hr=>(av (bf jh.nd rfl (Or.inl rfl) (gK (bM af))) (av (fB PassesOwn.never rfl (dg (cR (aC (aa 1) ae (fun _ _=>rfl)))) (bG jh.nd rfl (Or.inr rfl)) (av (p8 rfl jh.nd rfl rfl (cz.of (own:=[(Str.ofString "one")]) (kp:=[2,4]) (kn:=[(Str.ofString "kinds"),(Str.ofString "wire")]) (sc:=j7.1) (N:=gW) rfl rfl (by decide+kernel)) (gE (cB (aM cZ rfl T.z_len PySem.boot_len (ab (aa 2) af))) rfl T.z_range) (fun _ _ _=>(bG (show List.Nodup [(Str.ofString "one"),(Str.ofString "kinds"),(Str.ofString "wire")] from by decide+kernel) rfl (Or.inl rfl))) (fun _ _ _=>(uU (iR (bC (gC hr.units) (aC (aa 1) (aa 0) (fun _ _=>rfl)) (aC (aa 1) (aa 2) (fun _ _=>rfl)) (bJ _))))) (fun _ _ _=>(au (aa 0)))) (aZ (gI rfl (Or.inl rfl) (mP (au (aa 5)) (bj XP_law_take hr (by decide) rfl (ai (aR 0) (ai (au (aM cZ rfl T.z_len PySem.boot_len (ab (aa 5) af))) aO)) (aj (aj aK))) (fun _ _=>rfl)))))) (aZ (dm (nD (ai (au (aC (aa 1) ae (fun _ _=>rfl))) (ai (cB (cY pz rfl T.z_tuple PyProof.Rows.boot_tuple (ab (aa 3) af))) (ai (wV (gC hr.units) (bj XP_law_take hr (by decide) rfl (ai (aR 0) (ai (au ae) aO)) (aj (aj aK))) (au ae) (bJ _)) aO))))))))),hm,F.kp,F.binds fun _ _ _ _ _ _ us hl=>match us,hl with | [_,_,_],_=>rfl⟩
noncomputable abbrev d4:Stmt:=top 25
noncomputable abbrev gB:List Str:=[(Str.ofString "reel"),(Str.ofString "kinds"),(Str.ofString "names"),(Str.ofString "most"),(Str.ofString "outs"),(Str.ofString "k"),(Str.ofString "wire"),(Str.ofString "same"),(Str.ofString "width"),(Str.ofString "some"),(Str.ofString "way")]
noncomputable def vF:{b:List Stmt // aq d4=b}:=by
 have e:aq d4=aq d4:=rfl
 conv at e=>rhs;whnf
 exact⟨_,e⟩
noncomputable def i4:{b:Scope // ah d4=b}:=by
 have e:ah d4=ah d4:=rfl
 conv at e=>rhs;whnf
 exact⟨_,e⟩
theorem eN:ba gB [(Str.ofString "reel"),(Str.ofString "kinds"),(Str.ofString "names"),(Str.ofString "most")] i4.1:=⟨rfl,rfl,rfl,by decide+kernel,rfl,by decide+kernel,by decide+kernel⟩
noncomputable def kr:FZ:=(bz (cA 6 (x2 iZ (xT (e2 iZ (aA cO (ao (ag 1) aD)) (eC (.int 1)))) (bU az (ay (bL 0) (ay (xT (aA cO (ao (ag 1) aD))) bW))))) (bz (cA 7 (jO (lS (xT (aA cO (ao (ag 1) aD)))) (ky 0) (bT (b2 iq (e2 ck (ag 1) (ag 0)) (e2 ck (ag 1) (ag 2)))) (xP (ag 0)) [(Str.ofString "one")] [1,6])) (bz (cA 8 (yQ (xP (eNew (dk (ao (eC (.int 1)) (ao (eC (.int 1)) (ao (eC (.int 2)) (ao (eC (.int 2)) (ao (eC (.int 3)) (ao (eC (.int 3)) aD))))))))) (bU az (ay (bL 0) (ay (xP (eC (.int 6))) bW))))) (bz (cA 9 (CU (xP (eNew (dk (ao (ag 6) aD)))) (jO (iP (ei (e2 iZ (ag 8) (eC (.int 1))))) (ky 0) uW (yQ (xP (ag 2)) (bU az (ay (bL 1) (ay (xP (aA cO (ao (ag 2) aD))) bW)))) [(Str.ofString "j")] [0,7]))) (bz (cA 10 (bU az (ay (bL 0) (ay (xP (eC (.int 3))) bW)))) (bz (yF (bP (lL (b2 iq (ag 8) (eC (.int 3))) (b2 vG (ag 10) (eC (.int 0))))) (we (bL 9) (xP (eC (.int 2))) (bU az (ay (bL 0) (ay (xT (aA cO (ao (ag 1) aD))) bW)))) pj) (bz (yF (bP (lL (b2 iq (ag 8) (eC (.int 3))) (b2 vG (ag 10) (eC (.int 1))))) (we (bL 9) (xP (eC (.int 1))) (bU az (ay (bL 0) (ay (xT (aA cO (ao (ag 1) aD))) bW)))) pj) (jJ 4 (xT (fA (ao (e2 ck (ag 2) (ag 5)) (ao (aA fK (ao (ag 9) aD)) aD))))))))))))
noncomputable def ma:FZ:=(bz (cA 4 (lZ (dk aD))) (bz (kD (lS (x2 dH (xP (eC (.int 1))) (bU az (ay (bL 0) (ay (xP (ag 3)) bW))))) (ky 5) kr) (iz (bL 4))))
noncomputable def oR:List V3→aS→R3 V3:=mz gB ma
noncomputable def gZ:List V3→aS→R3 V3:=nA gB ma
theorem vS{P:Program}{w:World}{K:PySem.W.Frag}{mg:Str→Option Value}{base:Heap}{cl:Nat→Addr}(T:Tp K mg cl)(h:Def K mg (Str.ofString "_law_outs") d4)(XP_law_take:aI P w K mg base cl 1 (Str.ofString "_law_take") 2 az):aI P w K mg base cl 2 (Str.ofString "_law_outs") 4 oR:=by
 obtain⟨f,fd,F,hm⟩:=h
 exact⟨f,fd,_,cC (k:=1) vF.2 i4.2 F eN (fun cdv A outer s H E hr=>(av (bf eN.nd rfl (Or.inl rfl) (gK (bM af))) (av (fB PassesOwn.never rfl (gE (oC eu (au ae) (bj XP_law_take hr (by decide) rfl (ai (aR 0) (ai (au (aa 3)) aO)) (aj (aj aK)))) rfl T.z_range) (bG eN.nd rfl (Or.inl rfl)) (av (bf eN.nd rfl (Or.inr rfl) (oC kO (cB (aQ kO (aM cZ rfl T.z_len PySem.boot_len (ab (aa 1) af)) ae)) (bj XP_law_take hr (by decide) rfl (ai (aR 0) (ai (cB (aM cZ rfl T.z_len PySem.boot_len (ab (aa 1) af))) aO)) (aj (aj aK))))) (av (bf eN.nd rfl (Or.inr rfl) (ny rfl (cz.of (own:=[(Str.ofString "one")]) (kp:=[1,6]) (kn:=[(Str.ofString "kinds"),(Str.ofString "wire")]) (sc:=i4.1) (N:=gB) rfl rfl (by decide+kernel)) (gE (cB (aM cZ rfl T.z_len PySem.boot_len (ab (aa 1) af))) rfl T.z_range) (fun _ _ _=>(bG (show List.Nodup [(Str.ofString "one"),(Str.ofString "kinds"),(Str.ofString "wire")] from by decide+kernel) rfl (Or.inl rfl))) (fun _ _ _=>(uU (iR (bC (gC hr.units) (aC (aa 1) (aa 0) (fun _ _=>rfl)) (aC (aa 1) (aa 2) (fun _ _=>rfl)) (bJ _))))) (fun _ _ _=>(au (aa 0))))) (av (bf eN.nd rfl (Or.inl rfl) (mP (au (bY (bM (ab ae (ab ae (ab ae (ab ae (ab ae (ab ae af))))))))) (bj XP_law_take hr (by decide) rfl (ai (aR 0) (ai (au ae) aO)) (aj (aj aK))) (fun _ _=>rfl))) (av (bf eN.nd rfl (Or.inl rfl) (BX (au (bY (bM (ab (aa 6) af)))) (ny rfl (cz.of (own:=[(Str.ofString "j")]) (kp:=[0,7]) (kn:=[(Str.ofString "reel"),(Str.ofString "same")]) (sc:=i4.1) (N:=gB) rfl rfl (by decide+kernel)) (dg (cx (aQ kO (aa 8) ae) rfl T.z_range)) (fun _ _ _=>(bG (show List.Nodup [(Str.ofString "j"),(Str.ofString "reel"),(Str.ofString "same")] from by decide+kernel) rfl (Or.inl rfl))) (fun _ _ _=>iI) (fun _ _ _=>(mP (au (aa 2)) (bj XP_law_take hr (by decide) rfl (ai (aR 1) (ai (au (aM cZ rfl T.z_len PySem.boot_len (ab (aa 2) af))) aO)) (aj (aj aK))) (fun _ _=>rfl)))))) (av (bf eN.nd rfl (Or.inl rfl) (bj XP_law_take hr (by decide) rfl (ai (aR 0) (ai (au ae) aO)) (aj (aj aK)))) (av (ng (mU (j5 (ql (bC (gC hr.units) (aa 8) ae (bJ _)) (nS (bC D9 (aa 10) ae (bJ _)))))) (aZ (tF (bj XP_law_take hr (by decide) rfl (ai (aR 0) (ai (cB (aM cZ rfl T.z_len PySem.boot_len (ab (aa 1) af))) aO)) (aj (aj aK))) (tM (PX.go (aR 9)) (PX.go (au ae)) set_list))) jo) (av (ng (mU (j5 (ql (bC (gC hr.units) (aa 8) ae (bJ _)) (nS (bC D9 (aa 10) ae (bJ _)))))) (aZ (tF (bj XP_law_take hr (by decide) rfl (ai (aR 0) (ai (cB (aM cZ rfl T.z_len PySem.boot_len (ab (aa 1) af))) aO)) (aj (aj aK))) (tM (PX.go (aR 9)) (PX.go (au ae)) set_list))) jo) (aZ (gI rfl (Or.inl rfl) (cB (c6 (ab (aC (aa 2) (aa 5) (fun _ _=>rfl)) (ab (cY pz rfl T.z_tuple PyProof.Rows.boot_tuple (ab (aa 9) af)) af)))))))))))))) (aZ (dm (aR 4)))))),hm,F.kp,F.binds fun _ _ _ _ _ _ us hl=>match us,hl with | [_,_,_,_],_=>rfl⟩
noncomputable abbrev fg:Stmt:=top 26
noncomputable abbrev lE:List Str:=[(Str.ofString "reel"),(Str.ofString "cells"),(Str.ofString "most_ins"),(Str.ofString "most_sure"),(Str.ofString "names"),(Str.ofString "ins"),(Str.ofString "kinds"),(Str.ofString "k"),(Str.ofString "width"),(Str.ofString "ahead"),(Str.ofString "gates"),(Str.ofString "cell"),(Str.ofString "own"),(Str.ofString "place")]
noncomputable def vL:{b:List Stmt // aq fg=b}:=by
 have e:aq fg=aq fg:=rfl
 conv at e=>rhs;whnf
 exact⟨_,e⟩
noncomputable def pY:{b:Scope // ah fg=b}:=by
 have e:ah fg=ah fg:=rfl
 conv at e=>rhs;whnf
 exact⟨_,e⟩
theorem dr:ba lE [(Str.ofString "reel"),(Str.ofString "cells"),(Str.ofString "most_ins"),(Str.ofString "most_sure")] pY.1:=⟨rfl,rfl,rfl,by decide+kernel,rfl,by decide+kernel,by decide+kernel⟩
noncomputable def lg:FZ:=(bz (cA 8 (x2 dH (xP (eC (.int 1))) (bU az (ay (bL 0) (ay (xP (eC (.int 3))) bW))))) (bz (jJ 5 (xP (fA (ao (e2 ck (ag 4) (e2 iZ (eC (.int 7)) (ag 7))) (ao (ag 8) aD))))) (cA 6 (CU (bL 6) (xP (eNew (DN (dk (ao (ag 7) aD)) (ag 8))))))))
noncomputable def k5:FZ:=(bz (cA 12 (bU eG (ay (xP (ag 11)) bW))) (yF (FQ (bT (b2 tI (ag 10) (eNew (dk aD)))) (HL iq (bU az (ay (bL 12) (ay (xP (eC (.int 3))) bW))) (xP (eC (.int 0))))) (bz (cA 13 (bU az (ay (bL 12) (ay (xT (aA cO (ao (ag 10) aD))) bW)))) (bz (jJ 10 (bU gf (ay (bL 12) (ay (xT (e2 ck (ag 10) (ag 13))) (ay (bL 6) bW))))) (jJ 6 (xT (e2 ck (ag 6) (e2 dH (ag 9) (ag 13))))))) (bz (jJ 10 (bU fW (ay (bL 12) (ay (bL 6) (ay (xP (ag 3)) bW))))) (jJ 6 (xT (e2 dH (aA cO (ao (ag 6) aD)) (eC (.int 10))))))))
noncomputable def nM:FZ:=(bz (cA 4 (bU f7 (ay (bL 0) (ay (xP (eC (.int 8))) bW)))) (bz (cA 5 (lZ (dk aD))) (bz (cA 6 (lZ (dk aD))) (bz (kD (lS (x2 dH (xP (eC (.int 1))) (bU az (ay (bL 0) (ay (xP (ag 2)) bW))))) (ky 7) lg) (bz (cA 9 (xT (aA cO (ao (ag 6) aD)))) (bz (cA 10 (lZ (dk aD))) (bz (kD (iP (eJ (ag 1))) (ky 11) k5) (iz (uq (ay (bL 5) (ay (bL 10) (ay (bU gZ (ay (bL 0) (ay (bL 6) (ay (xP (ag 4)) (ay (xP (eC (.int 6))) bW))))) bW))))))))))))
noncomputable def qm:List V3→aS→R3 V3:=mz lE nM
noncomputable def iQ:List V3→aS→R3 V3:=nA lE nM
theorem yY{P:Program}{w:World}{K:PySem.W.Frag}{mg:Str→Option Value}{base:Heap}{cl:Nat→Addr}(T:Tp K mg cl)(h:Def K mg (Str.ofString "_law_net") fg)(XP_law_names:aI P w K mg base cl 2 (Str.ofString "_law_names") 2 f7)(XP_law_take:aI P w K mg base cl 1 (Str.ofString "_law_take") 2 az)(XK_law_reel:aI P w K mg base cl 1 (Str.ofString "_law_reel") 1 eG)(XP_law_again:aI P w K mg base cl 2 (Str.ofString "_law_again") 3 gf)(XP_law_gate:aI P w K mg base cl 2 (Str.ofString "_law_gate") 3 fW)(XP_law_outs:aI P w K mg base cl 2 (Str.ofString "_law_outs") 4 gZ):aI P w K mg base cl 3 (Str.ofString "_law_net") 4 qm:=by
 obtain⟨f,fd,F,hm⟩:=h
 exact⟨f,fd,_,cC (k:=2) vL.2 pY.2 F dr (fun cdv A outer s H E hr=>(av (bf dr.nd rfl (Or.inl rfl) (bj XP_law_names hr (by decide) rfl (ai (aR 0) (ai (au ae) aO)) (aj (aj aK)))) (av (bf dr.nd rfl (Or.inl rfl) (gK (bM af))) (av (bf dr.nd rfl (Or.inl rfl) (gK (bM af))) (av (fB PassesOwn.never rfl (gE (oC eu (au ae) (bj XP_law_take hr (by decide) rfl (ai (aR 0) (ai (au (aa 2)) aO)) (aj (aj aK)))) rfl T.z_range) (bG dr.nd rfl (Or.inl rfl)) (av (bf dr.nd rfl (Or.inl rfl) (oC eu (au ae) (bj XP_law_take hr (by decide) rfl (ai (aR 0) (ai (au ae) aO)) (aj (aj aK))))) (av (gI rfl (Or.inl rfl) (au (c6 (ab (aC (aa 4) (aQ kO ae (aa 7)) (fun _ _=>rfl)) (ab (aa 8) af))))) (aZ (bf dr.nd rfl (Or.inl rfl) (BX (aR 6) (au (bY (C5 (bM (ab (aa 7) af)) (aa 8)))))))))) (av (bf dr.nd rfl (Or.inl rfl) (cB (aM cZ rfl T.z_len PySem.boot_len (ab (aa 6) af)))) (av (bf dr.nd rfl (Or.inl rfl) (gK (bM af))) (av (fB PassesOwn.never rfl (dg (cR (aa 1))) (bG dr.nd rfl (Or.inl rfl)) (av (bf dr.nd rfl (Or.inl rfl) (bj XK_law_reel hr (by decide) rfl (ai (au (aa 11)) aO) (aj aK))) (aZ (ng (G2.pb (Cv (iR (bC (B9 hr.units) (aa 10) (bY (bM af)) (bJ _))) (zW (xA (gC hr.units) (bj XP_law_take hr (by decide) rfl (ai (aR 12) (ai (au ae) aO)) (aj (aj aK))) (au ae) (bJ _))))) (av (bf dr.nd rfl (Or.inl rfl) (bj XP_law_take hr (by decide) rfl (ai (aR 12) (ai (cB (aM cZ rfl T.z_len PySem.boot_len (ab (aa 10) af))) aO)) (aj (aj aK)))) (av (gI rfl (Or.inl rfl) (bj XP_law_again hr (by decide) rfl (ai (aR 12) (ai (cB (aC (aa 10) (aa 13) (fun _ _=>rfl))) (ai (aR 6) aO))) (aj (aj (aj aK))))) (aZ (gI rfl (Or.inl rfl) (cB (aC (aa 6) (aQ eu (aa 9) (aa 13)) (fun _ _=>rfl))))))) (av (gI rfl (Or.inl rfl) (bj XP_law_gate hr (by decide) rfl (ai (aR 12) (ai (aR 6) (ai (au (aa 3)) aO))) (aj (aj (aj aK))))) (aZ (gI rfl (Or.inl rfl) (cB (aQ eu (aM cZ rfl T.z_len PySem.boot_len (ab (aa 6) af)) ae))))))))) (aZ (dm (nD (ai (aR 5) (ai (aR 10) (ai (bj XP_law_outs hr (by decide) rfl (ai (aR 0) (ai (aR 6) (ai (au (aa 4)) (ai (au ae) aO)))) (aj (aj (aj (aj aK))))) aO)))))))))))))),hm,F.kp,F.binds fun _ _ _ _ _ _ us hl=>match us,hl with | [_,_,_,_],_=>rfl⟩
noncomputable abbrev cG:Stmt:=top 27
noncomputable abbrev lj:List Str:=[(Str.ofString "kind"),(Str.ofString "some")]
noncomputable def oY:{b:List Stmt // aq cG=b}:=by
 have e:aq cG=aq cG:=rfl
 conv at e=>rhs;whnf
 exact⟨_,e⟩
noncomputable def kB:{b:Scope // ah cG=b}:=by
 have e:ah cG=ah cG:=rfl
 conv at e=>rhs;whnf
 exact⟨_,e⟩
theorem qH:ba lj [(Str.ofString "kind"),(Str.ofString "some")] kB.1:=⟨rfl,rfl,rfl,by decide+kernel,rfl,by decide+kernel,by decide+kernel⟩
noncomputable def qb:FS:=(cQ (jK (b2 iq (ag 0) (eC (.str (Str.ofString "not")))) (cJ (e2 iZ (eC (.int 1)) (e2 ck (ag 1) (eC (.int 0))))) eA) (cQ (jK (b2 iq (ag 0) (eC (.str (Str.ofString "and")))) (cJ (aA oS (ao (ag 1) aD))) eA) (cQ (jK (b2 iq (ag 0) (eC (.str (Str.ofString "or")))) (cJ (aA A5 (ao (ag 1) aD))) eA) (cQ (jK (b2 iq (ag 0) (eC (.str (Str.ofString "xor")))) (cJ (e2 g9 (aA yE (ao (ag 1) aD)) (eC (.int 2)))) eA) (cJ (aA oI (ao (e2 vG (aA yE (ao (ag 1) aD)) (eC (.int 1))) aD)))))))
noncomputable def eF:List D→R D:=lF lj qb
theorem pR{P:Program}{w:World}{K:PySem.W.Frag}{mg:Str→Option Value}{base:Heap}{cl:Nat→Addr}(T:Tp K mg cl)(h:Def K mg (Str.ofString "_law_gate_bit") cG):Callee P w K mg base 1 (Str.ofString "_law_gate_bit") 2 eF:=by
 obtain⟨f,fd,F,hm⟩:=h
 exact⟨f,fd,_,cj (k:=0) oY.2 kB.2 F qH (fun cdv A outer s H E hr=>(aT (cg (bC (gC hr.units) (aa 0) bK (bJ _)) (aG (aU (aQ kO ae (aC (aa 1) ae (fun _ _=>rfl))))) bQ) (aT (cg (bC (gC hr.units) (aa 0) bK (bJ _)) (aG (aU (aM (v_ rfl) rfl T.z_min PyProof.Rows.boot_min (ab (aa 1) af)))) bQ) (aT (cg (bC (gC hr.units) (aa 0) bK (bJ _)) (aG (aU (aM (Ga rfl) rfl T.z_max PyProof.Rows.boot_max (ab (aa 1) af)))) bQ) (aT (cg (bC (gC hr.units) (aa 0) bK (bJ _)) (aG (aU (aQ kx (aM (xH rfl) rfl T.z_sum PyProof.Rows.boot_sum (ab (aa 1) af)) ae))) bQ) (aG (aU (cY qB rfl T.z_int PyProof.Rows.boot_int (ab (gQ D9 (aM (xH rfl) rfl T.z_sum PyProof.Rows.boot_sum (ab (aa 1) af)) ae (bJ _)) af))))))))),hm,F.kp,F.binds fun _ _ _ _ _ _ us hl=>match us,hl with | [_,_],_=>rfl⟩
noncomputable abbrev dF:Stmt:=top 28
noncomputable abbrev kN:List Str:=[(Str.ofString "net"),(Str.ofString "bits"),(Str.ofString "turned"),(Str.ofString "bad"),(Str.ofString "wires"),(Str.ofString "k"),(Str.ofString "j"),(Str.ofString "place"),(Str.ofString "kind"),(Str.ofString "own"),(Str.ofString "sure"),(Str.ofString "bit")]
noncomputable def tV:{b:List Stmt // aq dF=b}:=by
 have e:aq dF=aq dF:=rfl
 conv at e=>rhs;whnf
 exact⟨_,e⟩
noncomputable def ka:{b:Scope // ah dF=b}:=by
 have e:ah dF=ah dF:=rfl
 conv at e=>rhs;whnf
 exact⟨_,e⟩
theorem dz:ba kN [(Str.ofString "net"),(Str.ofString "bits"),(Str.ofString "turned"),(Str.ofString "bad")] ka.1:=⟨rfl,rfl,rfl,by decide+kernel,rfl,by decide+kernel,by decide+kernel⟩
noncomputable def gL:FS:=(nu 4 (e2 g9 (e2 dH (e2 ck (ag 1) (ag 5)) (aA oI (ao (jb (e2 pd (aA cO (ao (ag 4) aD)) (ag 3))) aD))) (eC (.int 2))))
noncomputable def gT:FS:=(nL (ei (e2 ck (e2 ck (e2 ck (ag 0) (eC (.int 0))) (ag 5)) (eC (.int 1)))) (bw 6) gL)
noncomputable def gU:FS:=(cQ (oV (e2 ck (e2 ck (ag 0) (eC (.int 1))) (ag 7)) (jf 3 (d6 (bw 8) (d6 (bw 9) (d6 (bw 10) jl))))) (cQ (i3 11 (jb (aA eF (ao (ag 8) (ao (eNew (il (eJ (ag 9)) (bw 0) oW (e2 ck (ag 1) (ag 0)) [(Str.ofString "one")] [4])) aD))))) (nu 4 (e2 g9 (e2 dH (ag 11) (aA oI (ao (e2 pd (ag 7) (ag 2)) aD))) (eC (.int 2))))))
noncomputable def oh:FS:=(cQ (ph 4 (dk aD)) (cQ (nL (ei (aA cO (ao (e2 ck (ag 0) (eC (.int 0))) aD))) (bw 5) gT) (cQ (nL (ei (aA cO (ao (e2 ck (ag 0) (eC (.int 1))) aD))) (bw 7) gU) (oX 4 (cJ (ag 4))))))
noncomputable def fP:List D→R D:=lF kN oh
theorem vw{P:Program}{w:World}{K:PySem.W.Frag}{mg:Str→Option Value}{base:Heap}{cl:Nat→Addr}(T:Tp K mg cl)(h:Def K mg (Str.ofString "_law_wires") dF)(C_law_gate_bit:Callee P w K mg base 1 (Str.ofString "_law_gate_bit") 2 eF):Callee P w K mg base 2 (Str.ofString "_law_wires") 4 fP:=by
 obtain⟨f,fd,F,hm⟩:=h
 exact⟨f,fd,_,cj (k:=1) tV.2 ka.2 F dz (fun cdv A outer s H E hr=>(aT (Aj dz.nd rfl (Or.inr rfl) (bM af)) (aT (f_ PassesOwn.never rfl (cx (aM cZ rfl T.z_len PySem.boot_len (ab (aC (aa 0) ae (fun _ _=>rfl)) af)) rfl T.z_range) (bx dz.nd rfl (Or.inl rfl)) (aG (f_ PassesOwn.never rfl (cx (aC (aC (aC (aa 0) ae (fun _ _=>rfl)) (aa 5) (fun _ _=>rfl)) ae (fun _ _=>rfl)) rfl T.z_range) (bx dz.nd rfl (Or.inl rfl)) (aG (vq rfl (Or.inr (Or.inl rfl)) (aQ kx (aQ eu (aC (aa 1) (aa 5) (fun _ _=>rfl)) (cY qB rfl T.z_int PyProof.Rows.boot_int (ab (um (gQ yZ (aM cZ rfl T.z_len PySem.boot_len (ab (aa 4) af)) (aa 3) (by with_unfolding_all rfl))) af))) ae)))))) (aT (f_ PassesOwn.never rfl (cx (aM cZ rfl T.z_len PySem.boot_len (ab (aC (aa 0) ae (fun _ _=>rfl)) af)) rfl T.z_range) (bx dz.nd rfl (Or.inl rfl)) (aT (BZ (aC (aC (aa 0) ae (fun _ _=>rfl)) (aa 7) (fun _ _=>rfl)) (m_ rfl (d9 (bx dz.nd rfl (Or.inl rfl)) (d9 (bx dz.nd rfl (Or.inl rfl)) (d9 (bx dz.nd rfl (Or.inl rfl)) lB))))) (aT (fZ dz.nd rfl (Or.inl rfl) (um (aX C_law_gate_bit hr (by decide) rfl (ab (aa 8) (ab (bY (fG rfl (cz.of (own:=[(Str.ofString "one")]) (kp:=[4]) (kn:=[(Str.ofString "wires")]) (sc:=ka.1) (N:=kN) rfl rfl (by decide+kernel)) (cR (aa 9)) (fun _ _ _=>(bx (show List.Nodup [(Str.ofString "one"),(Str.ofString "wires")] from by decide+kernel) rfl (Or.inl rfl))) (fun _ _ _=>eT) (fun _ _ _=>(aC (aa 1) (aa 0) (fun _ _=>rfl))))) af)) (ax (ax bq))))) (aG (vq rfl (Or.inr (Or.inl rfl)) (aQ kx (aQ eu (aa 11) (cY qB rfl T.z_int PyProof.Rows.boot_int (ab (gQ yZ (aa 7) (aa 2) (by with_unfolding_all rfl)) af))) ae)))))) (Be 4 (aG (aU (aa 4)))))))),hm,F.kp,F.binds fun _ _ _ _ _ _ us hl=>match us,hl with | [_,_,_,_],_=>rfl⟩
noncomputable abbrev dU:Stmt:=top 29
noncomputable abbrev qw:List Str:=[(Str.ofString "some")]
noncomputable def uE:{b:List Stmt // aq dU=b}:=by
 have e:aq dU=aq dU:=rfl
 conv at e=>rhs;whnf
 exact⟨_,e⟩
noncomputable def n8:{b:Scope // ah dU=b}:=by
 have e:ah dU=ah dU:=rfl
 conv at e=>rhs;whnf
 exact⟨_,e⟩
theorem xb:ba qw [(Str.ofString "some")] n8.1:=⟨rfl,rfl,rfl,by decide+kernel,rfl,by decide+kernel,by decide+kernel⟩
noncomputable def vI:FS:=(cQ (jK (lL (b2 iq (aA cO (ao (ag 0) aD)) (eC (.int 2))) (b2 tI (e2 ck (ag 0) (eC (.int 0))) (e2 ck (ag 0) (eC (.int 1))))) (cJ (eC .cI)) eA) (cQ (jK (b2 iq (aA cO (ao (ag 0) aD)) (eC (.int 3))) (cJ (aA oI (ao (e2 vG (aA yE (ao (ag 0) aD)) (eC (.int 1))) aD))) eA) (cJ (e2 ck (ag 0) (eC (.int 0))))))
noncomputable def iJ:List D→R D:=lF qw vI
theorem wD{P:Program}{w:World}{K:PySem.W.Frag}{mg:Str→Option Value}{base:Heap}{cl:Nat→Addr}(T:Tp K mg cl)(h:Def K mg (Str.ofString "_law_read") dU):Callee P w K mg base 1 (Str.ofString "_law_read") 1 iJ:=by
 obtain⟨f,fd,F,hm⟩:=h
 exact⟨f,fd,_,cj (k:=0) uE.2 n8.2 F xb (fun cdv A outer s H E hr=>(aT (cg (j5 (ql (bC (gC hr.units) (aM cZ rfl T.z_len PySem.boot_len (ab (aa 0) af)) ae (bJ _)) (nS (bC (B9 hr.units) (aC (aa 0) ae (fun _ _=>rfl)) (aC (aa 0) ae (fun _ _=>rfl)) (bJ _))))) (aG (aU lA)) bQ) (aT (cg (bC (gC hr.units) (aM cZ rfl T.z_len PySem.boot_len (ab (aa 0) af)) ae (bJ _)) (aG (aU (cY qB rfl T.z_int PyProof.Rows.boot_int (ab (gQ D9 (aM (xH rfl) rfl T.z_sum PyProof.Rows.boot_sum (ab (aa 0) af)) ae (bJ _)) af)))) bQ) (aG (aU (aC (aa 0) ae (fun _ _=>rfl))))))),hm,F.kp,F.binds fun _ _ _ _ _ _ us hl=>match us,hl with | [_],_=>rfl⟩
noncomputable abbrev dC:Stmt:=top 30
noncomputable abbrev ja:List Str:=[(Str.ofString "net"),(Str.ofString "bits"),(Str.ofString "turned"),(Str.ofString "bad"),(Str.ofString "wires")]
noncomputable def ub:{b:List Stmt // aq dC=b}:=by
 have e:aq dC=aq dC:=rfl
 conv at e=>rhs;whnf
 exact⟨_,e⟩
noncomputable def kl:{b:Scope // ah dC=b}:=by
 have e:ah dC=ah dC:=rfl
 conv at e=>rhs;whnf
 exact⟨_,e⟩
theorem oi:ba ja [(Str.ofString "net"),(Str.ofString "bits"),(Str.ofString "turned"),(Str.ofString "bad")] kl.1:=⟨rfl,rfl,rfl,by decide+kernel,rfl,by decide+kernel,by decide+kernel⟩
noncomputable def og:FS:=(cQ (i3 4 (aA fP (ao (ag 0) (ao (ag 1) (ao (ag 2) (ao (ag 3) aD)))))) (cJ (eNew (il (eJ (e2 ck (ag 0) (eC (.int 2)))) (jf 2 (d6 (bw 0) (d6 (bw 1) jl))) oW (aA iJ (ao (eNew (il (eJ (ag 1)) (bw 0) oW (e2 ck (ag 1) (ag 0)) [(Str.ofString "one")] [2])) aD)) [(Str.ofString "name"),(Str.ofString "own")] [4]))))
noncomputable def g6:List D→R D:=lF ja og
theorem vb{P:Program}{w:World}{K:PySem.W.Frag}{mg:Str→Option Value}{base:Heap}{cl:Nat→Addr}(T:Tp K mg cl)(h:Def K mg (Str.ofString "_law_reads") dC)(C_law_wires:Callee P w K mg base 2 (Str.ofString "_law_wires") 4 fP)(C_law_read:Callee P w K mg base 1 (Str.ofString "_law_read") 1 iJ):Callee P w K mg base 3 (Str.ofString "_law_reads") 4 g6:=by
 obtain⟨f,fd,F,hm⟩:=h
 exact⟨f,fd,_,cj (k:=2) ub.2 kl.2 F oi (fun cdv A outer s H E hr=>(aT (fZ oi.nd rfl (Or.inr rfl) (aX C_law_wires hr (by decide) rfl (ab (aa 0) (ab (aa 1) (ab (aa 2) (ab (aa 3) af)))) (ax (ax (ax (ax bq)))))) (aG (aU (bY (fG rfl (cz.of (own:=[(Str.ofString "name"),(Str.ofString "own")]) (kp:=[4]) (kn:=[(Str.ofString "wires")]) (sc:=kl.1) (N:=ja) rfl rfl (by decide+kernel)) (cR (aC (aa 0) ae (fun _ _=>rfl))) (fun _ _ _=>(m_ rfl (d9 (bx (show List.Nodup [(Str.ofString "name"),(Str.ofString "own"),(Str.ofString "wires")] from by decide+kernel) rfl (Or.inl rfl)) (d9 (bx (show List.Nodup [(Str.ofString "name"),(Str.ofString "own"),(Str.ofString "wires")] from by decide+kernel) rfl (Or.inl rfl)) lB)))) (fun _ _ _=>eT) (fun _ _ _=>(aX C_law_read hr (by decide) rfl (ab (bY (fG rfl (cz.of (own:=[(Str.ofString "one")]) (kp:=[2]) (kn:=[(Str.ofString "wires")]) rfl rfl rfl) (cR (aa 1)) (fun _ _ _=>(bx (show List.Nodup [(Str.ofString "one"),(Str.ofString "wires")] from by decide+kernel) rfl (Or.inl rfl))) (fun _ _ _=>eT) (fun _ _ _=>(aC (aa 1) (aa 0) (fun _ _=>rfl))))) af) (ax bq))))))))),hm,F.kp,F.binds fun _ _ _ _ _ _ us hl=>match us,hl with | [_,_,_,_],_=>rfl⟩
noncomputable abbrev c5:Stmt:=top 31
noncomputable abbrev j9:List Str:=[(Str.ofString "many"),(Str.ofString "found"),(Str.ofString "k"),(Str.ofString "wider"),(Str.ofString "bits")]
noncomputable def rf:{b:List Stmt // aq c5=b}:=by
 have e:aq c5=aq c5:=rfl
 conv at e=>rhs;whnf
 exact⟨_,e⟩
noncomputable def lO:{b:Scope // ah c5=b}:=by
 have e:ah c5=ah c5:=rfl
 conv at e=>rhs;whnf
 exact⟨_,e⟩
theorem d3:ba j9 [(Str.ofString "many")] lO.1:=⟨rfl,rfl,rfl,by decide+kernel,rfl,by decide+kernel,by decide+kernel⟩
noncomputable def iL:FS:=(i3 3 (e2 lU (ag 3) (eNew (dk (ao (e2 lU (ag 4) (fA (ao (eC (.int 0)) aD))) (ao (e2 lU (ag 4) (fA (ao (eC (.int 1)) aD))) aD))))))
noncomputable def iV:FS:=(cQ (i3 3 (eNew (dk aD))) (cQ (nL (eJ (ag 1)) (bw 4) iL) (i3 1 (ag 3))))
noncomputable def mJ:FS:=(cQ (i3 1 (eNew (dk (ao (fA aD) aD)))) (cQ (nL (ei (ag 0)) (bw 2) iV) (cJ (ag 1))))
noncomputable def dD:List D→R D:=lF j9 mJ
theorem tL{P:Program}{w:World}{K:PySem.W.Frag}{mg:Str→Option Value}{base:Heap}{cl:Nat→Addr}(T:Tp K mg cl)(h:Def K mg (Str.ofString "_law_inputs") c5):Callee P w K mg base 1 (Str.ofString "_law_inputs") 1 dD:=by
 obtain⟨f,fd,F,hm⟩:=h
 exact⟨f,fd,_,cj (k:=0) rf.2 lO.2 F d3 (fun cdv A outer s H E hr=>(aT (fZ d3.nd rfl (Or.inl rfl) (bY (bM (ab (c6 af) af)))) (aT (f_ PassesOwn.never rfl (cx (aa 0) rfl T.z_range) (bx d3.nd rfl (Or.inl rfl)) (aT (fZ d3.nd rfl (Or.inl rfl) (bY (bM af))) (aT (f_ PassesOwn.never rfl (cR (aa 1)) (bx d3.nd rfl (Or.inl rfl)) (aG (fZ d3.nd rfl (Or.inl rfl) (aQ qg (aa 3) (bY (bM (ab (aQ qg (aa 4) (c6 (ab ae af))) (ab (aQ qg (aa 4) (c6 (ab ae af))) af)))))))) (aG (fZ d3.nd rfl (Or.inl rfl) (aa 3)))))) (aG (aU (aa 1)))))),hm,F.kp,F.binds fun _ _ _ _ _ _ us hl=>match us,hl with | [_],_=>rfl⟩
noncomputable abbrev dv:Stmt:=top 32
noncomputable abbrev js:List Str:=[(Str.ofString "found"),(Str.ofString "due"),(Str.ofString "k")]
noncomputable def tE:{b:List Stmt // aq dv=b}:=by
 have e:aq dv=aq dv:=rfl
 conv at e=>rhs;whnf
 exact⟨_,e⟩
noncomputable def mG:{b:Scope // ah dv=b}:=by
 have e:ah dv=ah dv:=rfl
 conv at e=>rhs;whnf
 exact⟨_,e⟩
theorem oy:ba js [(Str.ofString "found"),(Str.ofString "due")] mG.1:=⟨rfl,rfl,rfl,by decide+kernel,rfl,by decide+kernel,by decide+kernel⟩
noncomputable def fD(self:List D→R D):FS:=(jK (ia (gb (aA self (ao (e2 ck (ag 0) (ag 2)) (ao (e2 ck (ag 1) (ag 2)) aD))))) (cJ (eC (.bl false))) eA)
noncomputable def gY(self:List D→R D):FS:=(cQ (jK (b2 IJ (ag 1) (eC .cI)) (cJ (e2 IJ (ag 0) (eC .cI))) eA) (cQ (jK (gb (jL "bool" (ag 1))) (cJ (nq (jL "bool" (ag 0)) (e2 iq (ag 0) (ag 1)))) eA) (cQ (jK (gb (jL "int" (ag 1))) (cJ (nq (jL "int" (ag 0)) (nq (qE (jL "bool" (ag 0))) (e2 iq (ag 0) (ag 1))))) eA) (cQ (jK (gb (jL "str" (ag 1))) (cJ (nq (jL "str" (ag 0)) (e2 iq (ag 0) (ag 1)))) eA) (cQ (jK (gb (jL "tuple" (ag 1))) (jK (ia (gb (jL "tuple" (ag 0)))) (cJ (eC (.bl false))) eA) (jK (ia (gb (jL "list" (ag 0)))) (cJ (eC (.bl false))) eA)) (cQ (jK (b2 tI (aA cO (ao (ag 0) aD)) (aA cO (ao (ag 1) aD))) (cJ (eC (.bl false))) eA) (cQ (nL (ei (aA cO (ao (ag 1) aD))) (bw 2) (fD self)) (cJ (eC (.bl true))))))))))
noncomputable def bb:Nat→List D→R D
 | 0=>fun _=> .no
 | n+1=>lF js (gY (bb n))
theorem oK{P:Program}{w:World}{K:PySem.W.Frag}{mg:Str→Option Value}{base:Heap}{cl:Nat→Addr}(T:Tp K mg cl)(h:Def K mg (Str.ofString "_law_alike") dv):∀n,Callee P w K mg base (1+n) (Str.ofString "_law_alike") 2 (bb n)
 | 0=>by
   obtain⟨f,fd,F,hm⟩:=h
   exact⟨f,fd,[(Str.ofString "found"),(Str.ofString "due")],HD,hm,F.kp,F.binds fun _ _ _ _ _ _ us hl=>match us,hl with | [_,_],_=>rfl⟩
 | n+1=>by
   have C_self:=oK (P:=P) (w:=w) (K:=K) (mg:=mg) (base:=base) T h n
   obtain⟨f,fd,F,hm⟩:=h
   exact⟨f,fd,_,cj (k:=1+n) tE.2 mG.2 F oy (fun cdv A outer s H E hr=>(aT (cg (bC Im (aa 1) lA (bJ _)) (aG (aU (gQ Im (aa 0) lA (bJ _)))) bQ) (aT (cg (d7 (gm (aa 1) (by decide) rfl T.z_isinstance rfl T.z_bool PyProof.Rows.boot_bool)) (aG (aU (pI (gm (aa 0) (by decide) rfl T.z_isinstance rfl T.z_bool PyProof.Rows.boot_bool) (tZ (gQ (gC hr.units) (aa 0) (aa 1) (bJ _)))))) bQ) (aT (cg (d7 (gm (aa 1) (by decide) rfl T.z_isinstance rfl T.z_int PyProof.Rows.boot_int)) (aG (aU (pI (gm (aa 0) (by decide) rfl T.z_isinstance rfl T.z_int PyProof.Rows.boot_int) (pI (D3 (gm (aa 0) (by decide) rfl T.z_isinstance rfl T.z_bool PyProof.Rows.boot_bool)) (tZ (gQ (gC hr.units) (aa 0) (aa 1) (bJ _))))))) bQ) (aT (cg (d7 (gm (aa 1) (by decide) rfl T.z_isinstance rfl T.z_str PyProof.Rows.boot_str)) (aG (aU (pI (gm (aa 0) (by decide) rfl T.z_isinstance rfl T.z_str PyProof.Rows.boot_str) (tZ (gQ (gC hr.units) (aa 0) (aa 1) (bJ _)))))) bQ) (aT (cg (d7 (gm (aa 1) (by decide) rfl T.z_isinstance rfl T.z_tuple PyProof.Rows.boot_tuple)) (aG (cg (gp (d7 (gm (aa 0) (by decide) rfl T.z_isinstance rfl T.z_tuple PyProof.Rows.boot_tuple))) (aG (aU ib)) bQ)) (aG (cg (gp (d7 (gm (aa 0) (by decide) rfl T.z_isinstance rfl T.z_list PyProof.Rows.boot_list))) (aG (aU ib)) bQ))) (aT (cg (bC (B9 hr.units) (aM cZ rfl T.z_len PySem.boot_len (ab (aa 0) af)) (aM cZ rfl T.z_len PySem.boot_len (ab (aa 1) af)) (bJ _)) (aG (aU ib)) bQ) (aT (f_ PassesOwn.never rfl (cx (aM cZ rfl T.z_len PySem.boot_len (ab (aa 1) af)) rfl T.z_range) (bx oy.nd rfl (Or.inl rfl)) (aG (cg (gp (d7 (aX C_self hr (by omega) rfl (ab (aC (aa 0) (aa 2) (fun _ _=>rfl)) (ab (aC (aa 1) (aa 2) (fun _ _=>rfl)) af)) (ax (ax bq))))) (aG (aU ib)) bQ))) (aG (aU ib)))))))))),hm,F.kp,F.binds fun _ _ _ _ _ _ us hl=>match us,hl with | [_,_],_=>rfl⟩
noncomputable abbrev c7:Stmt:=top 33
noncomputable abbrev nk:List Str:=[(Str.ofString "net")]
noncomputable def rj:{b:List Stmt // aq c7=b}:=by
 have e:aq c7=aq c7:=rfl
 conv at e=>rhs;whnf
 exact⟨_,e⟩
noncomputable def lN:{b:Scope // ah c7=b}:=by
 have e:ah c7=ah c7:=rfl
 conv at e=>rhs;whnf
 exact⟨_,e⟩
theorem sM:ba nk [(Str.ofString "net")] lN.1:=⟨rfl,rfl,rfl,by decide+kernel,rfl,by decide+kernel,by decide+kernel⟩
noncomputable def sR:FS:=(cJ (fA (ao (aA jV (ao (e2 ck (ag 0) (eC (.int 0))) aD)) (ao (aA jV (ao (e2 ck (ag 0) (eC (.int 1))) aD)) (ao (aA jV (ao (e2 ck (ag 0) (eC (.int 2))) aD)) aD)))))
noncomputable def iy:List D→R D:=lF nk sR
theorem tw{P:Program}{w:World}{K:PySem.W.Frag}{mg:Str→Option Value}{base:Heap}{cl:Nat→Addr}(T:Tp K mg cl)(h:Def K mg (Str.ofString "_law_copied") c7):Callee P w K mg base 1 (Str.ofString "_law_copied") 1 iy:=by
 obtain⟨f,fd,F,hm⟩:=h
 exact⟨f,fd,_,cj (k:=0) rj.2 lN.2 F sM (fun cdv A outer s H E hr=>(aG (aU (c6 (ab (cY vK rfl T.z_list PyProof.Rows.boot_list (ab (aC (aa 0) ae (fun _ _=>rfl)) af)) (ab (cY vK rfl T.z_list PyProof.Rows.boot_list (ab (aC (aa 0) ae (fun _ _=>rfl)) af)) (ab (cY vK rfl T.z_list PyProof.Rows.boot_list (ab (aC (aa 0) ae (fun _ _=>rfl)) af)) af))))))),hm,F.kp,F.binds fun _ _ _ _ _ _ us hl=>match us,hl with | [_],_=>rfl⟩
noncomputable abbrev cE:Stmt:=top 34
noncomputable abbrev k_:List Str:=[(Str.ofString "bits")]
noncomputable def o7:{b:List Stmt // aq cE=b}:=by
 have e:aq cE=aq cE:=rfl
 conv at e=>rhs;whnf
 exact⟨_,e⟩
noncomputable def kz:{b:Scope // ah cE=b}:=by
 have e:ah cE=ah cE:=rfl
 conv at e=>rhs;whnf
 exact⟨_,e⟩
theorem iM:ba k_ [] kz.1:=⟨rfl,rfl,rfl,by decide+kernel,rfl,by decide+kernel,by decide+kernel⟩
noncomputable def nF:FS:=(jK (ia (gb (aA (bb 5) (ao (aA l0 (ao (ag 0) aD)) (ao (e2 ck (eNew (dk (ao (e2 ck (ag 0) (eC (.int 0))) (ao (eC .cI) aD)))) (aA oI (ao (e2 tI (e2 ck (ag 0) (eC (.int 0))) (e2 ck (ag 0) (eC (.int 1)))) aD))) aD))))) (cJ (eC (.bl false))) eA)
noncomputable def nY:FS:=(jK (ia (gb (aA (bb 5) (ao (aA l0 (ao (ag 0) aD)) (ao (e2 ck (eNew (dk (ao (eC (.int 0)) (ao (eC (.int 0)) (ao (eC (.int 1)) (ao (eC (.int 1)) aD)))))) (e2 dH (e2 dH (e2 ck (ag 0) (eC (.int 0))) (e2 ck (ag 0) (eC (.int 1)))) (e2 ck (ag 0) (eC (.int 2))))) aD))))) (cJ (eC (.bl false))) eA)
noncomputable def qL:FS:=(cQ (jK (so (ia (gb (aA (bb 5) (ao (aA l0 (ao (fA (ao (eC (.int 0)) aD)) aD)) (ao (eC (.int 0)) aD))))) (ia (gb (aA (bb 5) (ao (aA l0 (ao (fA (ao (eC (.int 1)) aD)) aD)) (ao (eC (.int 1)) aD)))))) (cJ (eC (.bl false))) eA) (cQ (nL (eJ (aA dD (ao (eC (.int 2)) aD))) (bw 0) nF) (cQ (nL (eJ (aA dD (ao (eC (.int 3)) aD))) (bw 0) nY) (cJ (eC (.bl true))))))
noncomputable def eE:List D→R D:=lF k_ qL
theorem qh{P:Program}{w:World}{K:PySem.W.Frag}{mg:Str→Option Value}{base:Heap}{cl:Nat→Addr}(T:Tp K mg cl)(h:Def K mg (Str.ofString "_law_all_read") cE)(C_told:Callee P w K mg base 3 (Str.ofString "told") 1 l0)(C_law_alike:Callee P w K mg base 6 (Str.ofString "_law_alike") 2 (bb 5))(C_law_inputs:Callee P w K mg base 1 (Str.ofString "_law_inputs") 1 dD):Callee P w K mg base 7 (Str.ofString "_law_all_read") 0 eE:=by
 obtain⟨f,fd,F,hm⟩:=h
 exact⟨f,fd,_,cj (k:=6) o7.2 kz.2 F iM (fun cdv A outer s H E hr=>(aT (cg (j5 (pH (gp (d7 (aX C_law_alike hr (by decide) rfl (ab (aX C_told hr (by decide) rfl (ab (c6 (ab ae af)) af) (ax bq)) (ab ae af)) (ax (ax bq))))) (mM (gp (d7 (aX C_law_alike hr (by decide) rfl (ab (aX C_told hr (by decide) rfl (ab (c6 (ab ae af)) af) (ax bq)) (ab ae af)) (ax (ax bq)))))))) (aG (aU ib)) bQ) (aT (f_ PassesOwn.never rfl (cR (aX C_law_inputs hr (by decide) rfl (ab ae af) (ax bq))) (bx iM.nd rfl (Or.inl rfl)) (aG (cg (gp (d7 (aX C_law_alike hr (by decide) rfl (ab (aX C_told hr (by decide) rfl (ab (aa 0) af) (ax bq)) (ab (aC (bY (bM (ab (aC (aa 0) ae (fun _ _=>rfl)) (ab lA af)))) (cY qB rfl T.z_int PyProof.Rows.boot_int (ab (gQ (B9 hr.units) (aC (aa 0) ae (fun _ _=>rfl)) (aC (aa 0) ae (fun _ _=>rfl)) (bJ _)) af)) (fun _ _=>rfl)) af)) (ax (ax bq))))) (aG (aU ib)) bQ))) (aT (f_ PassesOwn.never rfl (cR (aX C_law_inputs hr (by decide) rfl (ab ae af) (ax bq))) (bx iM.nd rfl (Or.inl rfl)) (aG (cg (gp (d7 (aX C_law_alike hr (by decide) rfl (ab (aX C_told hr (by decide) rfl (ab (aa 0) af) (ax bq)) (ab (aC (bY (bM (ab ae (ab ae (ab ae (ab ae af)))))) (aQ eu (aQ eu (aC (aa 0) ae (fun _ _=>rfl)) (aC (aa 0) ae (fun _ _=>rfl))) (aC (aa 0) ae (fun _ _=>rfl))) (fun _ _=>rfl)) af)) (ax (ax bq))))) (aG (aU ib)) bQ))) (aG (aU ib)))))),hm,F.kp,F.binds fun _ _ _ _ _ _ us hl=>match us,hl with | [],_=>rfl⟩
noncomputable abbrev cn:Stmt:=top 35
noncomputable abbrev ef:List Str:=[(Str.ofString "reel"),(Str.ofString "net"),(Str.ofString "many"),(Str.ofString "wires"),(Str.ofString "outs"),(Str.ofString "k"),(Str.ofString "pair"),(Str.ofString "at")]
noncomputable def nU:{b:List Stmt // aq cn=b}:=by
 have e:aq cn=aq cn:=rfl
 conv at e=>rhs;whnf
 exact⟨_,e⟩
noncomputable def gz:{b:Scope // ah cn=b}:=by
 have e:ah cn=ah cn:=rfl
 conv at e=>rhs;whnf
 exact⟨_,e⟩
theorem cX:ba ef [(Str.ofString "reel"),(Str.ofString "net"),(Str.ofString "many")] gz.1:=⟨rfl,rfl,rfl,by decide+kernel,rfl,by decide+kernel,by decide+kernel⟩
noncomputable def i7:FZ:=(bz (cA 6 (uq (ay (xP (e2 ck (eNew (dk (ao (eC (.str (Str.ofString "pairpair"))) (ao (eC (.str (Str.ofString "morepair"))) aD)))) (ag 5))) (ay (uq (ay (x2 iZ (xP (e2 iZ (ag 3) (eC (.int 1)))) (bU az (ay (bL 0) (ay (xP (aA oS (ao (ag 3) (ao (eC (.int 3)) aD)))) bW)))) (ay (bU az (ay (bL 0) (ay (xP (ag 3)) bW))) bW))) bW)))) (bz (cA 7 (bU az (ay (bL 0) (ay (xP (e2 dH (aA cO (ao (ag 4) aD)) (eC (.int 1)))) bW)))) (cA 4 (xP (e2 dH (e2 dH (rS (ag 4) g8 (gn (ag 7))) (eNew (dk (ao (ag 6) aD)))) (rS (ag 4) (gn (ag 7)) g8))))))
noncomputable def h_:FZ:=(bz (cA 3 (xP (e2 dH (aA yE (ao (eNew (il (eJ (e2 ck (ag 1) (eC (.int 0)))) (jf 2 (d6 (bw 0) (d6 (bw 1) jl))) oW (ag 1) [(Str.ofString "name"),(Str.ofString "width")] [])) aD)) (aA cO (ao (e2 ck (ag 1) (eC (.int 1))) aD))))) (bz (cA 4 (xP (rS (e2 ck (ag 1) (eC (.int 2))) g8 (gn (e2 iZ (eC (.int 6)) (ag 2)))))) (bz (kD (iP (ei (ag 2))) (ky 5) i7) (iz (xP (e2 dH (rS (ag 4) g8 (gn (eC (.int 5)))) (eNew (dk (ao (fA (ao (eC (.str (Str.ofString "againout"))) (ao (e2 ck (e2 ck (ag 4) (eC (.int 0))) (eC (.int 1))) aD))) aD)))))))))
noncomputable def jM:List V3→aS→R3 V3:=mz ef h_
noncomputable def fj:List V3→aS→R3 V3:=nA ef h_
theorem o4{P:Program}{w:World}{K:PySem.W.Frag}{mg:Str→Option Value}{base:Heap}{cl:Nat→Addr}(T:Tp K mg cl)(h:Def K mg (Str.ofString "_law_odd_pairs") cn)(XP_law_take:aI P w K mg base cl 1 (Str.ofString "_law_take") 2 az):aI P w K mg base cl 2 (Str.ofString "_law_odd_pairs") 3 jM:=by
 obtain⟨f,fd,F,hm⟩:=h
 exact⟨f,fd,_,cC (k:=1) nU.2 gz.2 F cX (fun cdv A outer s H E hr=>(av (bf cX.nd rfl (Or.inl rfl) (au (aQ eu (aM (xH rfl) rfl T.z_sum PyProof.Rows.boot_sum (ab (bY (fG rfl (cz.of (own:=[(Str.ofString "name"),(Str.ofString "width")]) (kp:=[]) (kn:=[]) (sc:=gz.1) (N:=ef) rfl rfl (by decide+kernel)) (cR (aC (aa 1) ae (fun _ _=>rfl))) (fun _ _ _=>(m_ rfl (d9 (bx (show List.Nodup [(Str.ofString "name"),(Str.ofString "width")] from by decide+kernel) rfl (Or.inl rfl)) (d9 (bx (show List.Nodup [(Str.ofString "name"),(Str.ofString "width")] from by decide+kernel) rfl (Or.inl rfl)) lB)))) (fun _ _ _=>eT) (fun _ _ _=>(aa 1)))) af)) (aM cZ rfl T.z_len PySem.boot_len (ab (aC (aa 1) ae (fun _ _=>rfl)) af))))) (av (bf cX.nd rfl (Or.inl rfl) (au (kL (aC (aa 1) ae (fun _ _=>rfl)) iY (gg (aQ kO ae (aa 2)))))) (av (fB PassesOwn.never rfl (dg (cx (aa 2) rfl T.z_range)) (bG cX.nd rfl (Or.inl rfl)) (av (bf cX.nd rfl (Or.inl rfl) (nD (ai (au (aC (bY (bM (ab bK (ab bK af)))) (aa 5) (fun _ _=>rfl))) (ai (nD (ai (oC kO (au (aQ kO (aa 3) ae)) (bj XP_law_take hr (by decide) rfl (ai (aR 0) (ai (au (aM (v_ rfl) rfl T.z_min PyProof.Rows.boot_min (ab (aa 3) (ab ae af)))) aO)) (aj (aj aK)))) (ai (bj XP_law_take hr (by decide) rfl (ai (aR 0) (ai (au (aa 3)) aO)) (aj (aj aK))) aO))) aO)))) (av (bf cX.nd rfl (Or.inl rfl) (bj XP_law_take hr (by decide) rfl (ai (aR 0) (ai (au (aQ eu (aM cZ rfl T.z_len PySem.boot_len (ab (aa 4) af)) ae)) aO)) (aj (aj aK)))) (aZ (bf cX.nd rfl (Or.inl rfl) (au (aQ eu (aQ eu (kL (aa 4) iY (gg (aa 7))) (bY (bM (ab (aa 6) af)))) (kL (aa 4) (gg (aa 7)) iY)))))))) (aZ (dm (au (aQ eu (kL (aa 4) iY (gg ae)) (bY (bM (ab (c6 (ab bK (ab (aC (aC (aa 4) ae (fun _ _=>rfl)) ae (fun _ _=>rfl)) af))) af))))))))))),hm,F.kp,F.binds fun _ _ _ _ _ _ us hl=>match us,hl with | [_,_,_],_=>rfl⟩
noncomputable abbrev oB:Stmt:=top 36
noncomputable abbrev mE:List Str:=[(Str.ofString "script"),(Str.ofString "reel"),(Str.ofString "cells"),(Str.ofString "k"),(Str.ofString "net"),(Str.ofString "due"),(Str.ofString "bits"),(Str.ofString "one"),(Str.ofString "handed"),(Str.ofString "found"),(Str.ofString "sound"),(Str.ofString "answer")]
noncomputable def Ge:{b:List Stmt // aq oB=b}:=by
 have e:aq oB=aq oB:=rfl
 conv at e=>rhs;whnf
 exact⟨_,e⟩
noncomputable def tT:{b:Scope // ah oB=b}:=by
 have e:ah oB=ah oB:=rfl
 conv at e=>rhs;whnf
 exact⟨_,e⟩
theorem ip:ba mE [(Str.ofString "script")] tT.1:=⟨rfl,rfl,rfl,by decide+kernel,rfl,by decide+kernel,by decide+kernel⟩
noncomputable def yo:FZ:=(cA 2 (x2 dH (xP (ag 2)) (FK (ay (bU az (ay (bL 1) (ay (xP (e2 qt (eC (.int 10)) (eC (.int 40)))) bW))) bW))))
noncomputable def yA:FZ:=(rC (yQ (bL 5) (xP (ag 3))) (xP (ag 7)))
noncomputable def yt:FZ:=(kD (iP (k8 (aA g6 (ao (ag 4) (ao (ag 6) (ao (fA aD) (ao (fA aD) aD))))))) (y1 2 (wI (ky 3) (wI (ky 7) zK))) yA)
noncomputable def sf:FZ:=(bz (cA 1 (bU eG (ay (xP (aA eh (ao (ag 0) (ao (eC (.int 0)) aD)))) bW))) (bz (cA 2 (xP (rS (ag 0) (gn (eC (.int 1))) (gn (eC (.int 15)))))) (bz (kD (iP (ei (e2 iZ (eC (.int 2)) (aA cO (ao (ag 2) aD))))) (ky 3) yo) (bz (cA 4 (bU iQ (ay (bL 1) (ay (xP (ag 2)) (ay (xP (eC (.int 6))) (ay (xP (eC (.int 1))) bW)))))) (bz (yF (HL iq (bU az (ay (bL 1) (ay (xP (eC (.int 6))) bW))) (xP (eC (.int 0)))) (cA 4 (bU iQ (ay (bL 1) (ay (xP (eNew (dk aD))) (ay (xP (eC (.int 6))) (ay (xP (eC (.int 1))) bW)))))) pj) (bz (cA 4 (uq (ay (xP (e2 ck (ag 4) (eC (.int 0)))) (ay (xP (e2 ck (ag 4) (eC (.int 1)))) (ay (bU fj (ay (bL 1) (ay (xP (ag 4)) (ay (yQ (xP (eNew (dk (ao (eC (.int 0)) (ao (eC (.int 0)) (ao (eC (.int 1)) (ao (eC (.int 2)) aD))))))) (bU az (ay (bL 1) (ay (xP (eC (.int 4))) bW)))) bW)))) bW))))) (bz (cA 5 (jO (iP (eJ (e2 ck (ag 4) (eC (.int 2))))) (ky 0) uW (lZ (dk aD)) [(Str.ofString "out")] [])) (bz (kD (iP (eJ (aA dD (ao (aA cO (ao (e2 ck (ag 4) (eC (.int 0))) aD)) aD)))) (ky 6) yt) (bz (cA 8 (xP (aA iy (ao (ag 4) aD)))) (bz (cA 9 (bU iO (ay (xP (ag 8)) bW))) (bz (yF (bT (so (ia (gb (aA eE aD))) (ia (gb (aA (bb 5) (ao (ag 9) (ao (ag 5) aD))))))) (iz (xP (eC (.bl false)))) pj) (bz (rC (yQ (bL 9) (xP (eC (.int 0)))) (xP (eC (.int 0)))) (bz (yF (bT (ia (gb (aA (bb 5) (ao (rS (ag 9) (gn (eC (.int 1))) g8) (ao (rS (ag 5) (gn (eC (.int 1))) g8) aD)))))) (iz (xP (eC (.bl false)))) pj) (bz (cA 10 (xT (e2 iq (eNew (il (eJ (ag 5)) (bw 0) (b2 Df (eC .cI) (ag 0)) (ag 0) [(Str.ofString "row")] [])) (eNew (dk aD))))) (bz (cA 11 (bU ji (ay (xP (ag 8)) bW))) (bz (yF (bP (so (ia (gb (jL "bool" (ag 11)))) (b2 tI (ag 11) (ag 10)))) (iz (xP (eC (.bl false)))) pj) (iz (Gq (vW (bb 5) (ay (bU j8 (ay (xP (ag 8)) bW)) (ay (bL 5) bW))) (xP (aA (bb 5) (ao (ag 8) (ao (ag 4) aD))))))))))))))))))))))
noncomputable def I0:List V3→aS→R3 V3:=mz mE sf
noncomputable def Jm:List V3→aS→R3 V3:=nA mE sf
noncomputable def xu:List D→R D:=IP mE sf
structure Cf (K:PySem.W.Frag) (mg:Str→Option Value) (cl:Nat→Addr):Prop where
 C_Bench:vH K (cl 0)
 N_Bench_net:eP K (cl 0) (Str.ofString "net")
 N_Bench_many_inputs:eP K (cl 0) (Str.ofString "many_inputs")
 N_Bench_full:eP K (cl 0) (Str.ofString "full")
 N_Bench_in_masks:eP K (cl 0) (Str.ofString "in_masks")
 M_Bench:mg (Str.ofString "Bench")=some (.ref (cl 0))
 D_Bench___init__:EO K (cl 0) (Str.ofString "__init__") (Str.ofString "Bench.__init__") bt
 D_Bench_tells:t9 K (cl 0) (Str.ofString "tells") (Str.ofString "Bench.tells") bR
 D_Bench_readings:t9 K (cl 0) (Str.ofString "readings") (Str.ofString "Bench.readings") bu
 D_Bench_column:t9 K (cl 0) (Str.ofString "column") (Str.ofString "Bench.column") bF
theorem HM{K:PySem.W.Frag}{h:Heap}{mg:Str→Option Value}(X:K.In h)(G:h.Ns mainGlobals mg){C0:Addr}{f0:Addr}{od0 an0:Option Addr}{sl0:Array (Option Value)}{oc0 kV0 dc0 pm0 cd0 ct0:Value}{f1:Addr}{od1 an1:Option Addr}{sl1:Array (Option Value)}{oc1 kV1 dc1 pm1 cd1 ct1:Value}{f2:Addr}{od2 an2:Option Addr}{sl2:Array (Option Value)}{oc2 kV2 dc2 pm2 cd2 ct2:Value}{f3:Addr}{od3 an3:Option Addr}{sl3:Array (Option Value)}{oc3 kV3 dc3 pm3 cd3 ct3:Value}(aC0:PySem.W.nsIn K mainGlobals (Str.ofString "Bench")=some (some (.ref C0)))(pg0:PySem.W.plainGet K C0 Str.empty=true)(hd0:PySem.W.hasDictIn K C0=true)(po0:PySem.W.plainOver K C0=true)(sa0:PySem.W.findIn K (.ref C0) "__setattr__"=some (some (.builtin "object.__setattr__")))(mk0:PySem.W.makesIn K C0=true)(kc0:PySem.W.keepIn K (.ref C0)=true)(n0_net:PySem.W.findIn K (.ref C0) (Str.ofString "net")=some none)(n0_many_inputs:PySem.W.findIn K (.ref C0) (Str.ofString "many_inputs")=some none)(n0_full:PySem.W.findIn K (.ref C0) (Str.ofString "full")=some none)(n0_in_masks:PySem.W.findIn K (.ref C0) (Str.ofString "in_masks")=some none)(a_Bench___init__:PySem.W.findIn K (.ref C0) (Str.ofString "__init__")=some (some (.ref f0)))(i_Bench___init__:PySem.W.isFn K (.ref f0)=true)(l_Bench___init__:K.lookup f0=some ⟨oc0,od0, .func (PySem.W.fnOf (Str.ofString "__init__") (Str.ofString "Bench.__init__") (ix bt) (aq bt) (ah bt) .none kV0 dc0 pm0 an0 cd0 ct0),sl0⟩)(dO:PySem.W.codeIn K cd0 (Str.ofString "Bench.__init__")=true)(k_Bench___init__:PySem.W.keepIn K (.ref f0)=true)(a_Bench_tells:PySem.W.findIn K (.ref C0) (Str.ofString "tells")=some (some (.ref f1)))(i_Bench_tells:PySem.W.isFn K (.ref f1)=true)(l_Bench_tells:K.lookup f1=some ⟨oc1,od1, .func (PySem.W.fnOf (Str.ofString "tells") (Str.ofString "Bench.tells") (ix bR) (aq bR) (ah bR) .none kV1 dc1 pm1 an1 cd1 ct1),sl1⟩)(fF:PySem.W.codeIn K cd1 (Str.ofString "Bench.tells")=true)(k_Bench_tells:PySem.W.keepIn K (.ref f1)=true)(a_Bench_readings:PySem.W.findIn K (.ref C0) (Str.ofString "readings")=some (some (.ref f2)))(i_Bench_readings:PySem.W.isFn K (.ref f2)=true)(l_Bench_readings:K.lookup f2=some ⟨oc2,od2, .func (PySem.W.fnOf (Str.ofString "readings") (Str.ofString "Bench.readings") (ix bu) (aq bu) (ah bu) .none kV2 dc2 pm2 an2 cd2 ct2),sl2⟩)(dN:PySem.W.codeIn K cd2 (Str.ofString "Bench.readings")=true)(k_Bench_readings:PySem.W.keepIn K (.ref f2)=true)(a_Bench_column:PySem.W.findIn K (.ref C0) (Str.ofString "column")=some (some (.ref f3)))(i_Bench_column:PySem.W.isFn K (.ref f3)=true)(l_Bench_column:K.lookup f3=some ⟨oc3,od3, .func (PySem.W.fnOf (Str.ofString "column") (Str.ofString "Bench.column") (ix bF) (aq bF) (ah bF) .none kV3 dc3 pm3 an3 cd3 ct3),sl3⟩)(eI:PySem.W.codeIn K cd3 (Str.ofString "Bench.column")=true)(k_Bench_column:PySem.W.keepIn K (.ref f3)=true):∃cl,Cf K mg cl:=by
 exact⟨fun n=>C0,⟨pg0,hd0,po0,sa0⟩,n0_net,n0_many_inputs,n0_full,n0_in_masks,PySem.W.mg_of X G aC0,⟨_,_,pW (st:=bt) l_Bench___init__ dO k_Bench___init__,⟨mk0,a_Bench___init__,i_Bench___init__,kc0⟩⟩,⟨_,_,pW (st:=bR) l_Bench_tells fF k_Bench_tells,⟨a_Bench_tells,i_Bench_tells,k_Bench_tells⟩⟩,⟨_,_,pW (st:=bu) l_Bench_readings dN k_Bench_readings,⟨a_Bench_readings,i_Bench_readings,k_Bench_readings⟩⟩,⟨_,_,pW (st:=bF) l_Bench_column eI k_Bench_column,⟨a_Bench_column,i_Bench_column,k_Bench_column⟩⟩⟩
theorem Fq{P:Program}{w:World}{K:PySem.W.Frag}{mg:Str→Option Value}{base:Heap}{f:Addr}{fd:FuncData}{cl:Nat→Addr}(T:Tp K mg cl)(D_vote_of:Def K mg (Str.ofString "vote_of") eZ)(D_gate_mask:Def K mg (Str.ofString "gate_mask") dE)(D_in_wire_masks:Def K mg (Str.ofString "in_wire_masks") cq)(D_masks_at:Def K mg (Str.ofString "masks_at") d5)(D_wire_masks:Def K mg (Str.ofString "wire_masks") dc)(D_out_masks:Def K mg (Str.ofString "out_masks") dG)(D_reading:Def K mg (Str.ofString "reading") fq)(D_bit_at:Def K mg (Str.ofString "bit_at") gr)(D_read_at:Def K mg (Str.ofString "read_at") eY)(D_told:Def K mg (Str.ofString "told") kg)(D_all_inputs:Def K mg (Str.ofString "all_inputs") c_)(D_mask_of:Def K mg (Str.ofString "mask_of") eW)(D_in_mask:Def K mg (Str.ofString "in_mask") fk)(D_Bench___init__:EO K (cl 0) (Str.ofString "__init__") (Str.ofString "Bench.__init__") bt)(D_Bench_tells:t9 K (cl 0) (Str.ofString "tells") (Str.ofString "Bench.tells") bR)(D_Bench_readings:t9 K (cl 0) (Str.ofString "readings") (Str.ofString "Bench.readings") bu)(D_is_sound:Def K mg (Str.ofString "is_sound") dY)(D_Bench_column:t9 K (cl 0) (Str.ofString "column") (Str.ofString "Bench.column") bF)(D_columns:Def K mg (Str.ofString "columns") eX)(D_law_cell_at:Def K mg (Str.ofString "_law_cell_at") cN)(D_law_reel:Def K mg (Str.ofString "_law_reel") d_)(D_law_take:Def K mg (Str.ofString "_law_take") dS)(D_law_names:Def K mg (Str.ofString "_law_names") dA)(D_law_gate:Def K mg (Str.ofString "_law_gate") dW)(D_law_again:Def K mg (Str.ofString "_law_again") dw)(D_law_outs:Def K mg (Str.ofString "_law_outs") d4)(D_law_net:Def K mg (Str.ofString "_law_net") fg)(D_law_gate_bit:Def K mg (Str.ofString "_law_gate_bit") cG)(D_law_wires:Def K mg (Str.ofString "_law_wires") dF)(D_law_read:Def K mg (Str.ofString "_law_read") dU)(D_law_reads:Def K mg (Str.ofString "_law_reads") dC)(D_law_inputs:Def K mg (Str.ofString "_law_inputs") c5)(D_law_alike:Def K mg (Str.ofString "_law_alike") dv)(D_law_copied:Def K mg (Str.ofString "_law_copied") c7)(D_law_all_read:Def K mg (Str.ofString "_law_all_read") cE)(D_law_odd_pairs:Def K mg (Str.ofString "_law_odd_pairs") cn)(F:xU K (Str.ofString "law") (Str.ofString "law") oB f fd):hJ P w K mg base rh 8 f fd [Str.ofString "script"] (yD K 1 xu):=by
 have C_vote_of:Callee P w K mg base 1 (Str.ofString "vote_of") 1 fV:=zk T D_vote_of
 have C_gate_mask:Callee P w K mg base 2 (Str.ofString "gate_mask") 3 fN:=vk T D_gate_mask C_vote_of
 have XK_in_wire_masks:aI P w K mg base cl 1 (Str.ofString "in_wire_masks") 4 df:=o3 T D_in_wire_masks
 have XP_in_wire_masks:aI P w K mg base cl 1 (Str.ofString "in_wire_masks") 4 n5:=XK_in_wire_masks.p
 have C_masks_at:Callee P w K mg base 1 (Str.ofString "masks_at") 2 eO:=vO T D_masks_at
 have XK_wire_masks:aI P w K mg base cl 3 (Str.ofString "wire_masks") 5 lP:=tq T D_wire_masks C_masks_at C_gate_mask XK_in_wire_masks
 have XP_wire_masks:aI P w K mg base cl 3 (Str.ofString "wire_masks") 5 fE:=XK_wire_masks.p
 have XK_out_masks:aI P w K mg base cl 2 (Str.ofString "out_masks") 2 mY:=uC T D_out_masks C_masks_at
 have XP_out_masks:aI P w K mg base cl 2 (Str.ofString "out_masks") 2 gd:=XK_out_masks.p
 have C_reading:Callee P w K mg base 2 (Str.ofString "reading") 2 fS:=yU T D_reading C_vote_of
 have C_bit_at:Callee P w K mg base 1 (Str.ofString "bit_at") 2 f9:=Ae T D_bit_at
 have C_read_at:Callee P w K mg base 2 (Str.ofString "read_at") 2 fQ:=zC T D_read_at C_bit_at
 have C_told:Callee P w K mg base 3 (Str.ofString "told") 1 l0:=F9 T D_told C_reading C_read_at
 have XK_all_inputs:aI P w K mg base cl 1 (Str.ofString "all_inputs") 1 lQ:=t5 T D_all_inputs
 have XP_all_inputs:aI P w K mg base cl 1 (Str.ofString "all_inputs") 1 fH:=XK_all_inputs.p
 have C_mask_of:Callee P w K mg base 1 (Str.ofString "mask_of") 1 fM:=zD T D_mask_of
 have C_in_mask:Callee P w K mg base 2 (Str.ofString "in_mask") 2 iC:=zq T D_in_mask C_mask_of
 have XK_Bench___init__:uB P w K mg base cl 3 0 (Str.ofString "Bench") 1 cf:=dO T D_Bench___init__ C_mask_of C_in_mask XP_all_inputs
 have XK_Bench_tells:g_ P w K mg base cl 4 0 (Str.ofString "tells") 2 kR:=fF T D_Bench_tells XP_out_masks XP_wire_masks
 have XP_Bench_tells:g_ P w K mg base cl 4 0 (Str.ofString "tells") 2 eH:=XK_Bench_tells.p
 have XK_Bench_readings:g_ P w K mg base cl 5 0 (Str.ofString "readings") 1 i9:=dN T D_Bench_readings C_reading XP_Bench_tells
 have XP_Bench_readings:g_ P w K mg base cl 5 0 (Str.ofString "readings") 1 cF:=XK_Bench_readings.p
 have XK_is_sound:aI P w K mg base cl 6 (Str.ofString "is_sound") 1 oj:=wb T D_is_sound XK_Bench___init__ XP_Bench_readings
 have XP_is_sound:aI P w K mg base cl 6 (Str.ofString "is_sound") 1 ji:=XK_is_sound.p
 have XK_Bench_column:g_ P w K mg base cl 3 0 (Str.ofString "column") 1 dq:=eI T D_Bench_column C_read_at
 have XP_Bench_column:g_ P w K mg base cl 3 0 (Str.ofString "column") 1 oU:=XK_Bench_column.p
 have XK_columns:aI P w K mg base cl 6 (Str.ofString "columns") 1 iO:=yB T D_columns XK_Bench___init__ XP_Bench_readings XK_Bench_column
 have XP_columns:aI P w K mg base cl 6 (Str.ofString "columns") 1 j8:=XK_columns.p
 have C_law_cell_at:Callee P w K mg base 1 (Str.ofString "_law_cell_at") 2 eh:=rA T D_law_cell_at
 have XK_law_reel:aI P w K mg base cl 1 (Str.ofString "_law_reel") 1 eG:=vV T D_law_reel
 have XP_law_reel:aI P w K mg base cl 1 (Str.ofString "_law_reel") 1 vv:=XK_law_reel.p
 have XK_law_take:aI P w K mg base cl 1 (Str.ofString "_law_take") 2 oG:=w6 T D_law_take
 have XP_law_take:aI P w K mg base cl 1 (Str.ofString "_law_take") 2 az:=XK_law_take.p
 have XK_law_names:aI P w K mg base cl 2 (Str.ofString "_law_names") 2 mQ:=vc T D_law_names XP_law_take
 have XP_law_names:aI P w K mg base cl 2 (Str.ofString "_law_names") 2 f7:=XK_law_names.p
 have XK_law_gate:aI P w K mg base cl 2 (Str.ofString "_law_gate") 3 oq:=vY T D_law_gate XP_law_take
 have XP_law_gate:aI P w K mg base cl 2 (Str.ofString "_law_gate") 3 fW:=XK_law_gate.p
 have XK_law_again:aI P w K mg base cl 2 (Str.ofString "_law_again") 3 mZ:=uj T D_law_again XP_law_take
 have XP_law_again:aI P w K mg base cl 2 (Str.ofString "_law_again") 3 gf:=XK_law_again.p
 have XK_law_outs:aI P w K mg base cl 2 (Str.ofString "_law_outs") 4 oR:=vS T D_law_outs XP_law_take
 have XP_law_outs:aI P w K mg base cl 2 (Str.ofString "_law_outs") 4 gZ:=XK_law_outs.p
 have XK_law_net:aI P w K mg base cl 3 (Str.ofString "_law_net") 4 qm:=yY T D_law_net XP_law_names XP_law_take XK_law_reel XP_law_again XP_law_gate XP_law_outs
 have XP_law_net:aI P w K mg base cl 3 (Str.ofString "_law_net") 4 iQ:=XK_law_net.p
 have C_law_gate_bit:Callee P w K mg base 1 (Str.ofString "_law_gate_bit") 2 eF:=pR T D_law_gate_bit
 have C_law_wires:Callee P w K mg base 2 (Str.ofString "_law_wires") 4 fP:=vw T D_law_wires C_law_gate_bit
 have C_law_read:Callee P w K mg base 1 (Str.ofString "_law_read") 1 iJ:=wD T D_law_read
 have C_law_reads:Callee P w K mg base 3 (Str.ofString "_law_reads") 4 g6:=vb T D_law_reads C_law_wires C_law_read
 have C_law_inputs:Callee P w K mg base 1 (Str.ofString "_law_inputs") 1 dD:=tL T D_law_inputs
 have C_law_alike:Callee P w K mg base 6 (Str.ofString "_law_alike") 2 (bb 5):=oK T D_law_alike 5
 have C_law_copied:Callee P w K mg base 1 (Str.ofString "_law_copied") 1 iy:=tw T D_law_copied
 have C_law_all_read:Callee P w K mg base 7 (Str.ofString "_law_all_read") 0 eE:=qh T D_law_all_read C_told C_law_alike C_law_inputs
 have XK_law_odd_pairs:aI P w K mg base cl 2 (Str.ofString "_law_odd_pairs") 3 jM:=o4 T D_law_odd_pairs XP_law_take
 have XP_law_odd_pairs:aI P w K mg base cl 2 (Str.ofString "_law_odd_pairs") 3 fj:=XK_law_odd_pairs.p
 exact(cC (cl:=cl) (N:=mE) (F:=sf) (k:=7) Ge.2 tT.2 F ip (fun cdv A outer s H E hr=>(av (bf ip.nd rfl (Or.inl rfl) (bj XK_law_reel hr (by decide) rfl (ai (au (aX C_law_cell_at hr (by decide) rfl (ab (aa 0) (ab ae af)) (ax (ax bq)))) aO) (aj aK))) (av (bf ip.nd rfl (Or.inl rfl) (au (kL (aa 0) (gg ae) (gg ae)))) (av (fB PassesOwn.never rfl (dg (cx (aQ kO ae (aM cZ rfl T.z_len PySem.boot_len (ab (aa 2) af))) rfl T.z_range)) (bG ip.nd rfl (Or.inl rfl)) (aZ (bf ip.nd rfl (Or.inl rfl) (oC eu (au (aa 2)) (GI (ai (bj XP_law_take hr (by decide) rfl (ai (aR 1) (ai (au (aQ Eo ae ae)) aO)) (aj (aj aK))) aO)))))) (av (bf ip.nd rfl (Or.inl rfl) (bj XP_law_net hr (by decide) rfl (ai (aR 1) (ai (au (aa 2)) (ai (au ae) (ai (au ae) aO)))) (aj (aj (aj (aj aK)))))) (av (ng (xA (gC hr.units) (bj XP_law_take hr (by decide) rfl (ai (aR 1) (ai (au ae) aO)) (aj (aj aK))) (au ae) (bJ _)) (aZ (bf ip.nd rfl (Or.inl rfl) (bj XP_law_net hr (by decide) rfl (ai (aR 1) (ai (au (bY (bM af))) (ai (au ae) (ai (au ae) aO)))) (aj (aj (aj (aj aK))))))) jo) (av (bf ip.nd rfl (Or.inl rfl) (nD (ai (au (aC (aa 4) ae (fun _ _=>rfl))) (ai (au (aC (aa 4) ae (fun _ _=>rfl))) (ai (bj XP_law_odd_pairs hr (by decide) rfl (ai (aR 1) (ai (au (aa 4)) (ai (mP (au (bY (bM (ab ae (ab ae (ab ae (ab ae af))))))) (bj XP_law_take hr (by decide) rfl (ai (aR 1) (ai (au ae) aO)) (aj (aj aK))) (fun _ _=>rfl)) aO))) (aj (aj (aj aK)))) aO))))) (av (p8 rfl ip.nd rfl rfl (cz.of (own:=[(Str.ofString "out")]) (kp:=[]) (kn:=[]) (sc:=tT.1) (N:=mE) rfl rfl (by decide+kernel)) (dg (cR (aC (aa 4) ae (fun _ _=>rfl)))) (fun _ _ _=>(bG (show List.Nodup [(Str.ofString "out")] from by decide+kernel) rfl (Or.inl rfl))) (fun _ _ _=>iI) (fun _ _ _=>(gK (bM af)))) (av (fB PassesOwn.never rfl (dg (cR (aX C_law_inputs hr (by decide) rfl (ab (aM cZ rfl T.z_len PySem.boot_len (ab (aC (aa 4) ae (fun _ _=>rfl)) af)) af) (ax bq)))) (bG ip.nd rfl (Or.inl rfl)) (aZ (fB PassesOwn.never rfl (dg (rF (aX C_law_reads hr (by decide) rfl (ab (aa 4) (ab (aa 6) (ab (c6 af) (ab (c6 af) af)))) (ax (ax (ax (ax bq))))) rfl T.z_enumerate)) (sO rfl (iF (bG ip.nd rfl (Or.inl rfl)) (iF (bG ip.nd rfl (Or.inl rfl)) pU))) (aZ (xK (mP (aR 5) (au (aa 3)) (fun _ _=>rfl)) (au (aa 7))))))) (av (bf ip.nd rfl (Or.inl rfl) (au (aX C_law_copied hr (by decide) rfl (ab (aa 4) af) (ax bq)))) (av (bf ip.nd rfl (Or.inl rfl) (bj XK_columns hr (by decide) rfl (ai (au (aa 8)) aO) (aj aK))) (av (ng (iR (j5 (pH (gp (d7 (y4 C_law_all_read hr (by decide) rfl))) (mM (gp (d7 (aX C_law_alike hr (by decide) rfl (ab (aa 9) (ab (aa 5) af)) (ax (ax bq))))))))) (aZ (dm (au ib))) jo) (av (xK (mP (aR 9) (au ae) (fun _ _=>rfl)) (au ae)) (av (ng (iR (gp (d7 (aX C_law_alike hr (by decide) rfl (ab (kL (aa 9) (gg ae) iY) (ab (kL (aa 5) (gg ae) iY) af)) (ax (ax bq)))))) (aZ (dm (au ib))) jo) (av (bf ip.nd rfl (Or.inl rfl) (cB (gQ (gC hr.units) (bY (fG rfl (cz.of (own:=[(Str.ofString "row")]) (kp:=[]) (kn:=[]) (sc:=tT.1) (N:=mE) rfl rfl (by decide+kernel)) (cR (aa 5)) (fun _ _ _=>(bx (show List.Nodup [(Str.ofString "row")] from by decide+kernel) rfl (Or.inl rfl))) (fun _ _ _=>(AL (bC Hf lA (aa 0) (by with_unfolding_all rfl)))) (fun _ _ _=>(aa 0)))) (bY (bM af)) (bJ _)))) (av (bf ip.nd rfl (Or.inl rfl) (bj XP_is_sound hr (by decide) rfl (ai (au (aa 8)) aO) (aj aK))) (av (ng (mU (j5 (pH (gp (d7 (gm (aa 11) (by decide) rfl T.z_isinstance rfl T.z_bool PyProof.Rows.boot_bool))) (mM (bC (B9 hr.units) (aa 11) (aa 10) (bJ _)))))) (aZ (dm (au ib))) jo) (aZ (dm (GN (BC C_law_alike hr (by decide) rfl (ai (bj XP_columns hr (by decide) rfl (ai (au (aa 8)) aO) (aj aK)) (ai (aR 5) aO)) (aj (aj aK))) (GV (au (aX C_law_alike hr (by decide) rfl (ab (aa 8) (ab (aa 4) af)) (ax (ax bq)))))))))))))))))))))))))).imp fun _ _ _ _ h=>EI h
end K11
end
section
set_option maxRecDepth 100000
set_option maxHeartbeats 4000000
namespace K11
open PySem PySem.Spec PyProof.Rows L2 L3
theorem jq{S:aS}{k:Nat}{o x:SO}(h:S[k]? =some x):(S.set k o)[k]? =some o:=by
 obtain⟨h1,_⟩:=List.getElem?_eq_some_iff.mp h
 rw[List.getElem?_set_self h1]
noncomputable def nB(k:Nat)(S:aS):Prop:=Flat S∧∃a c,S[k]? =some (.lst [.int a, .int c])
structure Ev (k:Nat) (S S1:aS):Prop where
 p:nB k S1
 len:S1.length=S.length
 oth:∀j,j≠k→S1[j]? =S[j]?
theorem Ev.refl{k:Nat}{S:aS}(p:nB k S):Ev k S S:=⟨p,rfl,fun _ _=>rfl⟩
theorem Ev.trans{k:Nat}{S S1 S2:aS}(a:Ev k S S1)(b:Ev k S1 S2):Ev k S S2:=⟨b.p,b.len.trans a.len,fun j h=>(b.oth j h).trans (a.oth j h)⟩
theorem nB.lt{k:Nat}{S:aS}(p:nB k S):k < S.length:=by
 obtain⟨_,a,c,e⟩:=p
 exact(List.getElem?_eq_some_iff.mp e).1
theorem lX(ds:List D):∀n,o5 n (.lst ds)=true:=fun _=>rfl
theorem xB{a b:Int}(h:0 < b)(h2:b.natAbs.log2 < 9000):vh (.int a) (.int b)= .ok (.int (a / b)):=by unfold vh ue;exact cc _ ⟨h,h2⟩
theorem rT{m:Int}(h0:0 < m)(h:m < 1000000):m.natAbs.log2 < 9000:=by
 have h1:m.natAbs≠0:=by omega
 have:m.natAbs.log2 < 20:=(Nat.log2_lt h1).mpr (by omega)
 omega
theorem tu{S:aS}{k:Nat}{m:Int}(p:nB k S)(hm:0 < m)(hm2:m.natAbs.log2 < 9000){Q:V3→aS→Prop}
 (h:∀(r:Int) S1,0≤r→r < m→Ev k S S1→Q (.d (.int r)) S1):W3 (az [.loc k, .d (.int m)] S) Q:=by
 obtain⟨hL,a,c,e⟩:=p
 have fin:∀(r:Int) S2,0≤r→r < m→Ev k S S2→Flat S2∧fL S.length (.d (.int r))=true∧∃d,res S2 (.d (.int r))=some d∧Q (.d d) (S2.take S.length):=fun r S2 h1 h2 v=>by
  refine⟨v.p.1,by unfold fL;rfl, .int r,by unfold res;rfl,?_⟩
  rw[List.take_of_length_le (by have:=v.len;omega)]
  exact h r S2 h1 h2 v
 have h0:ck (.lst [.int a, .int c]) (.int 0)= .ok (.int a):=rfl
 have h1:ck (.lst [.int a, .int c]) (.int 1)= .ok (.int c):=rfl
 unfold az
 refine qG (uf rfl ?_)
 simp only[bX,kq,List.map_cons,List.map_nil,List.length_cons,List.length_nil,List.replicate,List.cons_append,List.nil_append,Nat.reduceAdd,Nat.reduceSub]
 unfold mr
 by_cases hc:(1000000000000000000:Int)≤a
 ·refine FE (sT (Aw (b:=true) ?_ ?_))
  ·simp (implicitDefEqProofs:=false) (disch:=first | omega | decide) only[lF,cW,cQ,i3,ph,nu,ot,uZ,oX,cJ,jK,eA,oV,ag,eC,e2,eNew,jb,aA,fA,w_,rS,yJ,jk,uo,nq,Ex,qE,ui,jL,mj,zH,b2,oM,lL,so,ia,gb,dk,nList,aD,ao,uJ,oF,g8,gn,dH,iZ,oa,g9,qt,n4,zF,Et,vG,Cg,ni,ue,xV,lY,iq,tI,pd,kZ,cInt,cStr,p9,fK,jV,cO,sS,qy,bw,jf,d6,jl,jr,iA,kj,D.atom,tyName,R.aV,R.fO,List.map_cons,List.map_nil,List.map_append,List.set_cons_zero,List.set_cons_succ,List.getElem?_cons_zero,List.getElem?_cons_succ,List.length_cons,List.length_nil,List.nil_append,List.cons_append,List.append_nil,List.length_map,List.length_append,List.replicate,Nat.reduceAdd,Nat.reduceSub,Nat.zero_add,decide_true,decide_false,Nat.lt_add_one,Nat.reduceLT,Nat.reduceLeDiff,Nat.reduceEqDiff,if_true,if_false,Bool.false_eq_true,ite_true,ite_false,Bool.true_or,Bool.or_true,Bool.true_and,Bool.and_true,beq_self_eq_true,down,bV,res,gx,bX,eB,kX,ky,y1,wI,zK,Option.map_some,Option.bind_some,gy,cK,qp,ku,ig,jB,cc,decide_eq_true_eq,Int.reduceToNat,e,h0]
   simp [hc]
  rw[if_pos rfl]
  refine aW (bA (by simp only[List.length_cons,List.length_nil,List.length_set];omega) (t7 (d:= .int (a % m)) ?_ rfl ⟨_,rfl,?_⟩))
  ·simp (implicitDefEqProofs:=false) (disch:=first | omega | decide) only[lF,cW,cQ,i3,ph,nu,ot,uZ,oX,cJ,jK,eA,oV,ag,eC,e2,eNew,jb,aA,fA,w_,rS,yJ,jk,uo,nq,Ex,qE,ui,jL,mj,zH,b2,oM,lL,so,ia,gb,dk,nList,aD,ao,uJ,oF,g8,gn,dH,iZ,oa,g9,qt,n4,zF,Et,vG,Cg,ni,ue,xV,lY,iq,tI,pd,kZ,cInt,cStr,p9,fK,jV,cO,sS,qy,bw,jf,d6,jl,jr,iA,kj,D.atom,tyName,R.aV,R.fO,List.map_cons,List.map_nil,List.map_append,List.set_cons_zero,List.set_cons_succ,List.getElem?_cons_zero,List.getElem?_cons_succ,List.length_cons,List.length_nil,List.nil_append,List.cons_append,List.append_nil,List.length_map,List.length_append,List.replicate,Nat.reduceAdd,Nat.reduceSub,Nat.zero_add,decide_true,decide_false,Nat.lt_add_one,Nat.reduceLT,Nat.reduceLeDiff,Nat.reduceEqDiff,if_true,if_false,Bool.false_eq_true,ite_true,ite_false,Bool.true_or,Bool.or_true,Bool.true_and,Bool.and_true,beq_self_eq_true,down,bV,res,gx,bX,eB,kX,ky,y1,wI,zK,Option.map_some,Option.bind_some,gy,cK,qp,ku,ig,jB,cc,decide_eq_true_eq,Int.reduceToNat,e,h0]
  simp only[List.set_cons_succ,List.set_cons_zero]
  refine aW (AU (t7 (d:= .int (a / m)) ?_ rfl (w_var (v:= .loc k) rfl (dn (d:= .int 0) rfl ⟨_,k,0,_,0,rfl,rfl,rfl,e,rfl,_,rfl,?_⟩))))
  ·refine aJ (a:= .int a) (b:= .int m) ?_ rfl (xB hm hm2)
   simp (implicitDefEqProofs:=false) (disch:=first | omega | decide) only[lF,cW,cQ,i3,ph,nu,ot,uZ,oX,cJ,jK,eA,oV,ag,eC,e2,eNew,jb,aA,fA,w_,rS,yJ,jk,uo,nq,Ex,qE,ui,jL,mj,zH,b2,oM,lL,so,ia,gb,dk,nList,aD,ao,uJ,oF,g8,gn,dH,iZ,oa,g9,qt,n4,zF,Et,vG,Cg,ni,ue,xV,lY,iq,tI,pd,kZ,cInt,cStr,p9,fK,jV,cO,sS,qy,bw,jf,d6,jl,jr,iA,kj,D.atom,tyName,R.aV,R.fO,List.map_cons,List.map_nil,List.map_append,List.set_cons_zero,List.set_cons_succ,List.getElem?_cons_zero,List.getElem?_cons_succ,List.length_cons,List.length_nil,List.nil_append,List.cons_append,List.append_nil,List.length_map,List.length_append,List.replicate,Nat.reduceAdd,Nat.reduceSub,Nat.zero_add,decide_true,decide_false,Nat.lt_add_one,Nat.reduceLT,Nat.reduceLeDiff,Nat.reduceEqDiff,if_true,if_false,Bool.false_eq_true,ite_true,ite_false,Bool.true_or,Bool.or_true,Bool.true_and,Bool.and_true,beq_self_eq_true,down,bV,res,gx,bX,eB,kX,ky,y1,wI,zK,Option.map_some,Option.bind_some,gy,cK,qp,ku,ig,jB,cc,decide_eq_true_eq,Int.reduceToNat,e,h0]
  refine gq (dn (d:= .int (a % m)) rfl ⟨_,rfl,_,rfl,?_⟩)
  exact fin _ _ (Int.emod_nonneg _ (by omega)) (Int.emod_lt_of_pos _ hm) ⟨⟨hL.set _ (lX _),_,_,jq e⟩,List.length_set,fun j hj=>List.getElem?_set_ne (Ne.symm hj)⟩
 ·refine aW (sT (Aw (b:=false) ?_ ?_))
  ·simp (implicitDefEqProofs:=false) (disch:=first | omega | decide) only[lF,cW,cQ,i3,ph,nu,ot,uZ,oX,cJ,jK,eA,oV,ag,eC,e2,eNew,jb,aA,fA,w_,rS,yJ,jk,uo,nq,Ex,qE,ui,jL,mj,zH,b2,oM,lL,so,ia,gb,dk,nList,aD,ao,uJ,oF,g8,gn,dH,iZ,oa,g9,qt,n4,zF,Et,vG,Cg,ni,ue,xV,lY,iq,tI,pd,kZ,cInt,cStr,p9,fK,jV,cO,sS,qy,bw,jf,d6,jl,jr,iA,kj,D.atom,tyName,R.aV,R.fO,List.map_cons,List.map_nil,List.map_append,List.set_cons_zero,List.set_cons_succ,List.getElem?_cons_zero,List.getElem?_cons_succ,List.length_cons,List.length_nil,List.nil_append,List.cons_append,List.append_nil,List.length_map,List.length_append,List.replicate,Nat.reduceAdd,Nat.reduceSub,Nat.zero_add,decide_true,decide_false,Nat.lt_add_one,Nat.reduceLT,Nat.reduceLeDiff,Nat.reduceEqDiff,if_true,if_false,Bool.false_eq_true,ite_true,ite_false,Bool.true_or,Bool.or_true,Bool.true_and,Bool.and_true,beq_self_eq_true,down,bV,res,gx,bX,eB,kX,ky,y1,wI,zK,Option.map_some,Option.bind_some,gy,cK,qp,ku,ig,jB,cc,decide_eq_true_eq,Int.reduceToNat,e,h0]
   simp [hc]
  rw[if_neg (by decide)]
  refine ml ⟨_,rfl,?_⟩
  refine aW (AU (t7 (d:= .int ((c*48271+11) % 2147483647)) ?_ rfl (w_var (v:= .loc k) rfl (dn (d:= .int 1) rfl ⟨_,k,1,_,1,rfl,rfl,rfl,e,rfl,_,rfl,?_⟩))))
  ·simp (implicitDefEqProofs:=false) (disch:=first | omega | decide) only[lF,cW,cQ,i3,ph,nu,ot,uZ,oX,cJ,jK,eA,oV,ag,eC,e2,eNew,jb,aA,fA,w_,rS,yJ,jk,uo,nq,Ex,qE,ui,jL,mj,zH,b2,oM,lL,so,ia,gb,dk,nList,aD,ao,uJ,oF,g8,gn,dH,iZ,oa,g9,qt,n4,zF,Et,vG,Cg,ni,ue,xV,lY,iq,tI,pd,kZ,cInt,cStr,p9,fK,jV,cO,sS,qy,bw,jf,d6,jl,jr,iA,kj,D.atom,tyName,R.aV,R.fO,List.map_cons,List.map_nil,List.map_append,List.set_cons_zero,List.set_cons_succ,List.getElem?_cons_zero,List.getElem?_cons_succ,List.length_cons,List.length_nil,List.nil_append,List.cons_append,List.append_nil,List.length_map,List.length_append,List.replicate,Nat.reduceAdd,Nat.reduceSub,Nat.zero_add,decide_true,decide_false,Nat.lt_add_one,Nat.reduceLT,Nat.reduceLeDiff,Nat.reduceEqDiff,if_true,if_false,Bool.false_eq_true,ite_true,ite_false,Bool.true_or,Bool.or_true,Bool.true_and,Bool.and_true,beq_self_eq_true,down,bV,res,gx,bX,eB,kX,ky,y1,wI,zK,Option.map_some,Option.bind_some,gy,cK,qp,ku,ig,jB,cc,decide_eq_true_eq,Int.reduceToNat,e,h1]
  have hx1:0≤(c*48271+11) % 2147483647:=Int.emod_nonneg _ (by omega)
  have hx2:(c*48271+11) % 2147483647 < 2147483647:=Int.emod_lt_of_pos _ (by omega)
  generalize (c*48271+11) % 2147483647=x at hx1 hx2
  simp only[List.set_cons_succ,List.set_cons_zero]
  have e1:(S.set k (.lst [.int a, .int x]))[k]? =some (.lst [.int a, .int x]):=jq e
  have v1:Ev k S (S.set k (.lst [.int a, .int x])):=⟨⟨hL.set _ (lX _),_,_,e1⟩,List.length_set,fun j hj=>List.getElem?_set_ne (Ne.symm hj)⟩
  generalize S.set k (.lst [.int a, .int x])=S1 at e1 v1
  refine aW (bA (by simp only[List.length_cons,List.length_nil,List.length_set];omega) (t7 (d:= .int (x*x % 2147483629)) ?_ rfl ⟨_,rfl,?_⟩))
  ·have h2:ck (.lst [.int a, .int x]) (.int 1)= .ok (.int x):=rfl
   simp (implicitDefEqProofs:=false) (disch:=first | omega | decide) only[lF,cW,cQ,i3,ph,nu,ot,uZ,oX,cJ,jK,eA,oV,ag,eC,e2,eNew,jb,aA,fA,w_,rS,yJ,jk,uo,nq,Ex,qE,ui,jL,mj,zH,b2,oM,lL,so,ia,gb,dk,nList,aD,ao,uJ,oF,g8,gn,dH,iZ,oa,g9,qt,n4,zF,Et,vG,Cg,ni,ue,xV,lY,iq,tI,pd,kZ,cInt,cStr,p9,fK,jV,cO,sS,qy,bw,jf,d6,jl,jr,iA,kj,D.atom,tyName,R.aV,R.fO,List.map_cons,List.map_nil,List.map_append,List.set_cons_zero,List.set_cons_succ,List.getElem?_cons_zero,List.getElem?_cons_succ,List.length_cons,List.length_nil,List.nil_append,List.cons_append,List.append_nil,List.length_map,List.length_append,List.replicate,Nat.reduceAdd,Nat.reduceSub,Nat.zero_add,decide_true,decide_false,Nat.lt_add_one,Nat.reduceLT,Nat.reduceLeDiff,Nat.reduceEqDiff,if_true,if_false,Bool.false_eq_true,ite_true,ite_false,Bool.true_or,Bool.or_true,Bool.true_and,Bool.and_true,beq_self_eq_true,down,bV,res,gx,bX,eB,kX,ky,y1,wI,zK,Option.map_some,Option.bind_some,gy,cK,qp,ku,ig,jB,cc,decide_eq_true_eq,Int.reduceToNat,e1,h2]
  simp only[List.set_cons_succ,List.set_cons_zero]
  generalize x*x % 2147483629=y
  refine gq (dn (d:= .int (y*69621 % 2147483587 / 8 % m)) ?_ ⟨_,rfl,?_⟩)
  ·refine aJ (a:= .int (y*69621 % 2147483587 / 8)) (b:= .int m) (aJ (a:= .int (y*69621 % 2147483587)) (b:= .int 8) ?_ rfl (xB (by omega) (by decide))) rfl (wY hm)
   simp (implicitDefEqProofs:=false) (disch:=first | omega | decide) only[lF,cW,cQ,i3,ph,nu,ot,uZ,oX,cJ,jK,eA,oV,ag,eC,e2,eNew,jb,aA,fA,w_,rS,yJ,jk,uo,nq,Ex,qE,ui,jL,mj,zH,b2,oM,lL,so,ia,gb,dk,nList,aD,ao,uJ,oF,g8,gn,dH,iZ,oa,g9,qt,n4,zF,Et,vG,Cg,ni,ue,xV,lY,iq,tI,pd,kZ,cInt,cStr,p9,fK,jV,cO,sS,qy,bw,jf,d6,jl,jr,iA,kj,D.atom,tyName,R.aV,R.fO,List.map_cons,List.map_nil,List.map_append,List.set_cons_zero,List.set_cons_succ,List.getElem?_cons_zero,List.getElem?_cons_succ,List.length_cons,List.length_nil,List.nil_append,List.cons_append,List.append_nil,List.length_map,List.length_append,List.replicate,Nat.reduceAdd,Nat.reduceSub,Nat.zero_add,decide_true,decide_false,Nat.lt_add_one,Nat.reduceLT,Nat.reduceLeDiff,Nat.reduceEqDiff,if_true,if_false,Bool.false_eq_true,ite_true,ite_false,Bool.true_or,Bool.or_true,Bool.true_and,Bool.and_true,beq_self_eq_true,down,bV,res,gx,bX,eB,kX,ky,y1,wI,zK,Option.map_some,Option.bind_some,gy,cK,qp,ku,ig,jB,cc,decide_eq_true_eq,Int.reduceToNat]
  exact fin _ _ (Int.emod_nonneg _ (by omega)) (Int.emod_lt_of_pos _ hm) v1
section
variable {S:aS} {δ:DE} {k i:Nat}
theorem draw{Q:V3→aS→Prop}{f:FD}{m:Int}(hv:δ[i]? =some (some (.loc k)))(p:nB k S)(hf:f (down δ)= .ok (.int m))(hm:0 < m)(hm2:m < 1000000)
 (h:∀(r:Int) S1,0≤r→r < m→Ev k S S1→Q (.d (.int r)) S1):W3 (bU az (ay (bL i) (ay (xP f) bW)) δ S) Q:=
 dX (aL (w_var hv (aL (dn hf (cU (tu p hm (rT hm hm2) h))))))
theorem Ep{Q:V3→aS→Prop}{m:Int}(hv:δ[i]? =some (some (.loc k)))(p:nB k S)(hm:0 < m)(hm2:m < 1000000)
 (h:∀(r:Nat) S1,1≤r→(r:Int)≤m→Ev k S S1→Q (.d (.int r)) S1):W3 (x2 dH (xP (eC (.int 1))) (bU az (ay (bL i) (ay (xP (eC (.int m))) bW))) δ S) Q:=
 Ak (dn rfl (draw hv p rfl hm hm2 fun r S1 h1 h2 v=>⟨_,_, .int ((1+r).toNat:Nat),rfl,rfl,by rw[Int.toNat_of_nonneg (by omega)];rfl,h _ S1 (by omega) (by omega) v⟩))
end
theorem xt(c:Int){S:aS}{Q:V3→aS→Prop}(hS:Flat S)(h:∀S1,nB S.length S1→S1.length=S.length+1→(∀j,j < S.length→S1[j]? =S[j]?)→Q (.loc S.length) S1):W3 (eG [.d (.int c)] S) Q:=by
 have hz:sizeLine=16777216:=sizeLine_eq
 unfold eG
 refine uf rfl ?_
 simp only[bX,km,List.map_cons,List.map_nil,List.length_cons,List.length_nil,List.replicate,List.cons_append,List.nil_append,Nat.reduceAdd,Nat.reduceSub]
 unfold mD
 refine gq (jS (ds:=[.int (if c < 0 then -c else c), .int ((c % 2147483647+1)*742938285 % 2147483647)]) ?_ ⟨_,rfl,?_⟩)
 ·simp (implicitDefEqProofs:=false) (disch:=first | omega | decide) only[lF,cW,cQ,i3,ph,nu,ot,uZ,oX,cJ,jK,eA,oV,ag,eC,e2,eNew,jb,aA,fA,w_,rS,yJ,jk,uo,nq,Ex,qE,ui,jL,mj,zH,b2,oM,lL,so,ia,gb,dk,nList,aD,ao,uJ,oF,g8,gn,dH,iZ,oa,g9,qt,n4,zF,Et,vG,Cg,ni,ue,xV,lY,iq,tI,pd,kZ,cInt,cStr,p9,fK,jV,cO,sS,qy,bw,jf,d6,jl,jr,iA,kj,D.atom,tyName,R.aV,R.fO,List.map_cons,List.map_nil,List.map_append,List.set_cons_zero,List.set_cons_succ,List.getElem?_cons_zero,List.getElem?_cons_succ,List.length_cons,List.length_nil,List.nil_append,List.cons_append,List.append_nil,List.length_map,List.length_append,List.replicate,Nat.reduceAdd,Nat.reduceSub,Nat.zero_add,decide_true,decide_false,Nat.lt_add_one,Nat.reduceLT,Nat.reduceLeDiff,Nat.reduceEqDiff,if_true,if_false,Bool.false_eq_true,ite_true,ite_false,Bool.true_or,Bool.or_true,Bool.true_and,Bool.and_true,beq_self_eq_true,down,bV,res,gx,bX,eB,kX,ky,y1,wI,zK,Option.map_some,Option.bind_some,gy,cK,qp,ku,ig,jB,cc,decide_eq_true_eq,Int.reduceToNat,cAbs]
 refine h _ ⟨hS.push (lX _),_,_,by rw[List.getElem?_append_right (Nat.le_refl _),Nat.sub_self];rfl⟩ (by simp) fun j hj=>List.getElem?_append_left hj
end K11
end
section
set_option maxRecDepth 100000
set_option maxHeartbeats 4000000
namespace K11
open PySem PySem.Spec PyProof.Rows L2 L3 MT
theorem Bm{a:D}{r:List D}:ck (.tup (a ::r)) (.int 0)= .ok a:=nW (by rw[jw (by omega) (by simp)];rfl)
theorem CC{a b:D}{r:List D}:ck (.tup (a ::b ::r)) (.int 1)= .ok b:=nW (by rw[jw (by omega) (by simp)];rfl)
theorem Ka{a b c:D}{r:List D}:ck (.tup (a ::b ::c ::r)) (.int 2)= .ok c:=nW (by rw[jw (by omega) (by simp)];rfl)
theorem xM{N:Nat}{a b c:M}:fV [.tup [mI N a,mI N b,mI N c]]= .ok (mI N fun p=>(a p && b p) || (a p && c p) || (b p && c p)):=by
 unfold fV sI
 refine dh (cL ?_)
 exact aJ (aJ (aJ (aJ rfl rfl Bm) (aJ rfl rfl CC) (uh N a b)) (aJ (aJ rfl rfl Bm) (aJ rfl rfl Ka) (uh N a c)) (AM N _ _)) (aJ (aJ rfl rfl CC) (aJ rfl rfl Ka) (uh N b c)) (AM N _ _)
theorem HG(k j:Nat)(hk:k≤4)(hj:j≤4):iq (.str (kS k)) (.str (kS j))= .ok (.bl (decide (k=j))):=by
 show R.ok (D.bl (kS k==kS j))=_
 congr 2
 revert hk hj
 have:∀a∈List.range 5,∀b∈List.range 5,(kS a==kS b)=decide (a=b):=by decide+kernel
 intro hk hj
 exact this k (by rw[List.mem_range];omega) j (by rw[List.mem_range];omega)
theorem Ds{N kd:Nat}{xs:List M}(hk:kd≤4)(hx:xs.length=ar kd):fN [.str (kS kd), .tup (xs.map (mI N)),mI N one]= .ok (mI N fun p=>gv kd (xs.map (· p))):=by
 unfold fN om
 have q:∀j,j≤4→b2 iq (ag 0) (eC (.str (kS j))) (cW kY [.str (kS kd), .tup (xs.map (mI N)),mI N one])= .ok (decide (kd=j)):=fun j hj=>ij (a:= .str (kS kd)) (b:= .str (kS j)) rfl rfl (HG kd j hk hj)
 have q0:=q 0 (by omega)
 have q1:=q 1 (by omega)
 have q2:=q 2 (by omega)
 have q3:=q 3 (by omega)
 match kd,hk,xs,hx with
 | 0,_,[a],_=>
   refine dh (NT.j_ (mT q0 (cL (aJ (a:=mI N one) (b:=mI N a) rfl (aJ rfl rfl Bm) (uX N a)))))
 | 1,_,[a,b],_=>
   refine dh (bc (di q0 rfl) (NT.j_ (mT q1 (cL (aJ (aJ rfl rfl Bm) (aJ rfl rfl CC) (uh N a b))))))
 | 2,_,[a,b],_=>
   refine dh (bc (di q0 rfl) (bc (di q1 rfl) (NT.j_ (mT q2 (cL (aJ (aJ rfl rfl Bm) (aJ rfl rfl CC) (AM N a b)))))))
 | 3,_,[a,b],_=>
   refine dh (bc (di q0 rfl) (bc (di q1 rfl) (bc (di q2 rfl) (NT.j_ (mT q3 (cL (aJ (aJ rfl rfl Bm) (aJ rfl rfl CC) (Eh N a b))))))))
 | 4,_,[a,b,c],_=>
   refine dh (bc (di q0 rfl) (bc (di q1 rfl) (bc (di q2 rfl) (bc (di q3 rfl) (cL (aP (ds:=[.tup [mI N a,mI N b,mI N c]]) rfl xM))))))
theorem Ey{N:Nat}{ws:List M}{ns:List Nat}(hn:∀n∈ns,n < ws.length)(hl:ns.length < 1000):eO [.lst (ws.map (mI N)), .tup (ns.map nI)]= .ok (.tup ((ns.map (jR ws)).map (mI N))):=by
 have hz:sizeLine=16777216:=sizeLine_eq
 unfold eO pP
 refine dh (cL (aP (ds:=[.lst ((ns.map (jR ws)).map (mI N))]) (aN (et (gh (ds:=ns.map nI) (vM rfl) (by rw[List.length_map];omega) ?_)) rfl) rfl))
 rw[List.map_map]
 exact NT.dZ nI _ fun n hn'=>⟨[.val (nI n), .val (.lst (ws.map (mI N)))],rfl,rfl,aJ (a:= .lst (ws.map (mI N))) (b:=nI n) rfl rfl (zO (hn n hn'))⟩
noncomputable def wC(N:Nat)(S:aS)(insD bitsD badD:D)(a5 a6 a7:Option V3):DE:=[some (.d insD),some (.d bitsD),some (.d (mI N one)),some (.d badD),some (.loc S.length),a5,a6,a7]
theorem Av{N:Nat}{S:aS}{insD bitsD:D}{bad:List Int}{a5 a7:Option V3}{b:M}{ws:List M}(hl:ws.length < 10000) :
 W3 (gc (wC N S insD bitsD (.tup (bad.map .int)) a5 (some (.d (mI N b))) a7) (S++[.lst (ws.map (mI N))])) fun o S1=>o= .nx (wC N S insD bitsD (.tup (bad.map .int)) a5 (some (.d (mI N b))) a7)∧S1=S++[SO.lst ((ws++[fun p=>b p !=bad.contains (ws.length:Int)]).map (mI N))]:=by
 have hz:sizeLine=16777216:=sizeLine_eq
 unfold gc
 refine jQ (k:=S.length) rfl ⟨_,bH _ _⟩ (t7 (d:=mI N fun p=>b p !=bad.contains (ws.length:Int)) ?_ rfl ⟨_,_,rfl,bH _ _,by rw[List.length_map];omega,rfl,?_⟩)
 ·have h4:(bV (S++[.lst (ws.map (mI N))]) (wC N S insD bitsD (.tup (bad.map .int)) a5 (some (.d (mI N b))) a7))[4]? =some (.val (.lst (ws.map (mI N)))):=by
   unfold bV wC
   show some (match res (S++[.lst (ws.map (mI N))]) (.loc S.length) with | some d=>Sl.val d | none=> .un)=_
   unfold res
   rw[bH]
  refine sW (b:=bad.contains (ws.length:Int)) (ij (a:= .int ws.length) (b:= .tup (bad.map .int)) (aP (ds:=[.lst (ws.map (mI N))]) (aN (by unfold ag;rw [h4]) rfl) (by rw[kF,List.length_map])) rfl (pK _ _)) ?_
  rw[←B4]
  rfl
 ·rw[f6,List.map_append];rfl
theorem uI{N:Nat}{S:aS}{bD:D}{ins:List (Str × Nat)}{bits:List M}{bad:List Int}(hB:bD= .lst (bits.map (mI N))∨bD= .tup (bits.map (mI N)))(hb:bits.length=ins.length)(hi:ins.length < 100)(hw:∀x∈ins,x.2 < 100){Q:V3→aS→Prop}
 (h:Q (.loc S.length) (S++[.lst ((cw ins bits bad ins.length).map (mI N))])) :
 W3 (df [.d (.lst (ins.map inD)), .d bD, .d (mI N one), .d (.tup (bad.map .int))] S) Q:=by
 have hz:sizeLine=16777216:=sizeLine_eq
 unfold df
 refine uf rfl ?_
 simp only[bX,fI,List.map_cons,List.map_nil,List.length_cons,List.length_nil,List.replicate,List.cons_append,List.nil_append,Nat.reduceAdd,Nat.reduceSub]
 unfold ie
 refine aW (bA (by simp only[List.length_cons,List.length_nil,List.length_set];omega) (jS (ds:=[]) rfl ⟨_,rfl,?_⟩))
 simp only[List.set_cons_succ,List.set_cons_zero]
 refine aW (ik (mf (ds:=ft (bits.map (mI N))) (by rcases hB with rfl | rfl <;> rfl) ?_))
 have big:∀i,i≤ins.length→(cw ins bits bad i).length≤100*i:=by
  intro i hi'
  induction i with
  | zero=>simp [cw]
  | succ i ih=>
    have ih:=ih (by omega)
    have h1:ins[i]? =some ins[i]:=List.getElem?_eq_getElem (by omega)
    have h2:bits[i]? =some bits[i]:=List.getElem?_eq_getElem (by omega)
    unfold cw
    rw[h1,h2]
    show(fu bad bits[i] ins[i].2 (cw ins bits bad i)).length≤_
    rw[fR]
    have:=hw ins[i] (List.getElem_mem _)
    omega
 refine(cH (fun i δ S2=>(∃a b c,δ=wC N S (.lst (ins.map inD)) bD (.tup (bad.map .int)) a b c)∧S2=S++[SO.lst ((cw ins bits bad i).map (mI N))])
  ⟨⟨_,_,_,rfl⟩,rfl⟩ ?_).mono fun o S2 ⟨δ2,e2',⟨a,b,c,hδ⟩,hS⟩=>⟨δ2,e2',?_⟩
 ·rintro i v δ S2 hv ⟨⟨a,b,c,rfl⟩,rfl⟩
  obtain⟨d,hd,rfl⟩:=tQ hv
  rw[List.getElem?_map] at hd
  have hib:i < bits.length:=by
   have:=(List.getElem?_eq_some_iff.mp hv).1
   simpa [ft] using this
  have h1:ins[i]? =some ins[i]:=List.getElem?_eq_getElem (by omega)
  have h2:bits[i]? =some bits[i]:=List.getElem?_eq_getElem hib
  rw[h2] at hd
  cases hd
  refine⟨wC N S (.lst (ins.map inD)) bD (.tup (bad.map .int)) (some (.d (.int i))) (some (.d (mI N bits[i]))) c,rfl,?_⟩
  unfold jn
  have hwi:=hw ins[i] (List.getElem_mem _)
  refine ik (mf (eU (n:=ins[i].2) ?_ (by omega)) ?_)
  ·refine aJ (a:=inD ins[i]) (b:= .int 1) (aJ (a:= .lst (ins.map inD)) (b:= .int i) rfl rfl (jA ?_)) rfl rfl
   rw[jw (by omega) (by rw[List.length_map,Int.toNat_natCast];omega)]
   simp
  refine(cH (fun j δ S3=>(∃c,δ=wC N S (.lst (ins.map inD)) bD (.tup (bad.map .int)) (some (.d (.int i))) (some (.d (mI N bits[i]))) c)∧S3=S++[SO.lst ((fu bad bits[i] j (cw ins bits bad i)).map (mI N))])
   ⟨⟨_,rfl⟩,rfl⟩ ?_).mono fun o S3 ⟨δ3,e3,⟨c3,hδ3⟩,hS3⟩=>⟨δ3,e3,⟨_,_,c3,hδ3⟩,?_⟩
  ·rintro j v δ S3 hv ⟨⟨c3,rfl⟩,rfl⟩
   refine⟨_,rfl,?_⟩
   have hj:j < ins[i].2:=by
    have:=(List.getElem?_eq_some_iff.mp hv).1
    rwa [List.length_map,b_,List.length_map,List.length_range] at this
   refine(Av ?_).mono fun o S4 ⟨e4,e5⟩=>⟨_,e4,⟨_,rfl⟩,e5⟩
   rw[fR]
   have:=big i (by omega)
   omega
  ·rw[hS3,List.length_map,b_,List.length_map,List.length_range]
   show _=S++[SO.lst ((match ins[i]?,bits[i]? with | some x,some b=>fu bad b x.2 (cw ins bits bad i) | _,_=>cw ins bits bad i).map (mI N))]
   rw[h1,h2]
 have hlen:((ft (bits.map (mI N))).map V3.d).length=ins.length:=by simp [ft,hb]
 rw[hlen] at hS
 subst hδ hS
 exact gq (w_var rfl ⟨_,rfl,h⟩)
section
variable {N:Nat} {ins:List (Str × Nat)} {gs:List Gt} {os:List (Str × List Nat)} {bits:List M} {turned bad:List Int}
noncomputable def ug(N:Nat)(S:aS)(nt bitsD tD bD:D)(a6 a7 a8:Option V3):DE:=[some (.d nt),some (.d bitsD),some (.d (mI N one)),some (.d tD),some (.d bD),some (.loc S.length),a6,a7,a8]
theorem zo{S:aS}{nt bitsD bD:D}{a8:Option V3}{g:Gt}{i:Nat}{ws:List M}(hg:lh ws.length g)(hl:ws.length < 20000) :
 W3 (iS (ug N S nt bitsD (.tup (turned.map .int)) bD (some (.d (.int i))) (some (.d (iK g))) a8) (S++[.lst (ws.map (mI N))])) fun o S1=>(∃c,o= .nx (ug N S nt bitsD (.tup (turned.map .int)) bD (some (.d (.int i))) (some (.d (iK g))) c))∧S1=S++[SO.lst ((ws++[fun p=>gF g ws p !=turned.contains (i:Int)]).map (mI N))]:=by
 have hz:sizeLine=16777216:=sizeLine_eq
 have ha:=uK g.1
 unfold iS
 refine aW (bA (by unfold ug;simp only[List.length_cons,List.length_nil];omega) (t7 (d:=mI N (gF g ws)) ?_ rfl ⟨_,rfl,?_⟩))
 ·have h5:(bV (S++[.lst (ws.map (mI N))]) (ug N S nt bitsD (.tup (turned.map .int)) bD (some (.d (.int i))) (some (.d (iK g))) a8))[5]? =some (.val (.lst (ws.map (mI N)))):=by
   unfold bV ug
   show some (match res (S++[.lst (ws.map (mI N))]) (.loc S.length) with | some d=>Sl.val d | none=> .un)=_
   unfold res
   rw[bH]
  refine(aP (ds:=[.str (kS g.1), .tup ((g.2.1.map (jR ws)).map (mI N)),mI N one]) (aN (aJ (a:=iK g) (b:= .int 0) rfl rfl rfl) (aN ?_ (aN rfl rfl))) (Ds hg.1 (by rw[List.length_map];exact hg.2.1))).trans ?_
  ·exact aP (ds:=[.lst (ws.map (mI N)), .tup (g.2.1.map nI)]) (aN (by unfold ag;rw [h5]) (aN (aJ (a:=iK g) (b:= .int 1) rfl rfl rfl) rfl)) (Ey hg.2.2 (by rw[hg.2.1];omega))
  ·have:(fun p=>gv g.1 ((g.2.1.map (jR ws)).map (· p)))=gF g ws:=by funext p;unfold gF;rw [List.map_map];rfl
   rw[this]
 ·show W3 (jJ 5 _ (ug N S nt bitsD (.tup (turned.map .int)) bD (some (.d (.int i))) (some (.d (iK g))) (some (.d (mI N (gF g ws))))) _) _
  refine jQ (k:=S.length) rfl ⟨_,bH _ _⟩ (dn (d:=mI N fun p=>gF g ws p !=turned.contains (i:Int)) ?_ ⟨_,_,rfl,bH _ _,by rw[List.length_map];omega,⟨_,rfl⟩,?_⟩)
  ·refine sW (b:=turned.contains (i:Int)) (ij (a:= .int i) (b:= .tup (turned.map .int)) rfl rfl (pK _ _)) ?_
   rw[←B4]
   rfl
  ·rw[f6,List.map_append];rfl
theorem BN{S:aS}{bD:D}(hB:bD= .lst (bits.map (mI N))∨bD= .tup (bits.map (mI N)))(NO:i8 ins gs os)(hb:bits.length=ins.length)(hS:qZ S){Q:V3→aS→Prop}(h:Q (.d (.lst ((qC ins gs bits turned bad).map (mI N)))) S) :
 W3 (fE [.d (bB ins gs os), .d bD, .d (mI N one), .d (.tup (turned.map .int)), .d (.tup (bad.map .int))] S) Q:=by
 have hz:sizeLine=16777216:=sizeLine_eq
 unfold fE
 refine oP hS (uf rfl ?_)
 simp only[bX,iB,List.map_cons,List.map_nil,List.length_cons,List.length_nil,List.replicate,List.cons_append,List.nil_append,Nat.reduceAdd,Nat.reduceSub]
 unfold j3
 refine aW <| bA (by simp only[List.length_cons,List.length_nil,List.length_set];omega) <| dX <| aL <| dn (d:= .lst (ins.map inD)) rfl <| aL <| dn (d:=bD) rfl <| aL <| dn (d:=mI N one) rfl <| aL <| dn (d:= .tup (bad.map .int)) rfl <| cU <| uI hB hb NO.hi NO.hw ⟨_,rfl,?_⟩
 simp only[List.set_cons_succ,List.set_cons_zero]
 have hwd:=qj NO.hw
 have hN:=NO.hi
 have hG:=NO.hg
 refine aW (ik (mf (ds:=ft (gs.map iK)) rfl ?_))
 refine(cH (fun i δ S2=>(∃a b c,δ=ug N S (bB ins gs os) bD (.tup (turned.map .int)) (.tup (bad.map .int)) a b c)∧S2=S++[SO.lst ((j1 gs turned (cw ins bits bad ins.length) i).map (mI N))])
  ⟨⟨_,_,_,rfl⟩,rfl⟩ ?_).mono fun o S2 ⟨δ2,e2',⟨a,b,c,hδ⟩,hS2⟩=>⟨δ2,e2',?_⟩
 ·rintro i v δ S2 hv ⟨⟨a,b,c,rfl⟩,rfl⟩
  obtain⟨d,hd,rfl⟩:=tQ hv
  rw[List.getElem?_map] at hd
  cases q:gs[i]? with
  | none=>rw [q] at hd;cases hd
  | some g=>
    rw[q] at hd
    cases hd
    have hi:i < gs.length:=(List.getElem?_eq_some_iff.mp q).1
    have hl:(j1 gs turned (cw ins bits bad ins.length) i).length=fX ins+i:=by rw[lH _ (by omega),jN hb _ (Nat.le_refl _),List.take_length]
    refine⟨ug N S (bB ins gs os) bD (.tup (turned.map .int)) (.tup (bad.map .int)) (some (.d (.int i))) (some (.d (iK g))) c,rfl,?_⟩
    refine(zo (by rw[hl];exact NO.g i g q) (by rw[hl];omega)).mono fun o S4 ⟨⟨c4,e4⟩,e5⟩=>⟨_,e4,⟨_,_,_,rfl⟩,?_⟩
    rw[e5]
    show _=S++[SO.lst ((match gs[i]? with | some g=>j1 gs turned (cw ins bits bad ins.length) i++[fun p=>gF g (j1 gs turned (cw ins bits bad ins.length) i) p !=turned.contains (i:Int)] | none=>j1 gs turned (cw ins bits bad ins.length) i).map (mI N))]
    rw[q]
 have hlen:((ft (gs.map iK)).map V3.d).length=gs.length:=by simp [ft]
 rw[hlen] at hS2
 subst hδ hS2
 exact gq (w_var rfl ⟨_,rfl,by unfold fL;exact decide_eq_true (Nat.le_refl _),⟨_,rfl⟩,_,by unfold res;rw [bH];rfl,h⟩)
noncomputable def mC(N:Nat)(os:List (Str × List Nat))(ws:List M):List D:=os.map fun x=> .tup ((tell ws x).map (mI N))
theorem CH{S:aS}{ws:List M}(hO:os.length < 1000)(ho:∀x∈os,x.2.length < 1000∧∀w∈x.2,w < ws.length)(hS:qZ S){Q:V3→aS→Prop}(h:Q (.d (.lst (mC N os ws))) S) :
 W3 (gd [.d (bB ins gs os), .d (.lst (ws.map (mI N)))] S) Q:=by
 have hz:sizeLine=16777216:=sizeLine_eq
 unfold gd
 refine oP hS (uf rfl ?_)
 simp only[bX,g7,List.map_cons,List.map_nil,List.length_cons,List.length_nil,List.replicate,List.cons_append,List.nil_append,Nat.reduceAdd,Nat.reduceSub]
 unfold k4
 refine gq (jS (ds:=mC N os ws) ?_ ⟨_,rfl,by unfold fL;exact decide_eq_true (Nat.le_refl _),⟨_,rfl⟩,_,by unfold res;rw [bH],h⟩)
 refine gh (ds:=os.map i0) (mh (aJ (a:=bB ins gs os) (b:= .int 2) rfl rfl rfl)) (by rw[List.length_map];omega) ?_
 unfold mC
 refine NT.dZ i0 _ fun(x:Str × List Nat) hx=>⟨[.val (.str x.1), .val (.tup (x.2.map nI)), .val (.lst (ws.map (mI N)))],rfl,rfl,?_⟩
 exact aP (ds:=[.lst (ws.map (mI N)), .tup (x.2.map nI)]) rfl (Ey (ho x hx).2 (ho x hx).1)
end
end K11
end
section
set_option maxRecDepth 100000
set_option maxHeartbeats 4000000
namespace K11
open PySem PySem.Spec PyProof.Rows L2 L3 MT
noncomputable def r0(xs:List M):M:=fun p=>(IW (xs.map (· p))).1
noncomputable def r1(xs:List M):M:=fun p=>(IW (xs.map (· p))).2
theorem qF{n:Nat}{ds:List D}{δ:aw}{j:Int}(h:ag 0 δ= .ok (.tup ds))(hl:ds.length=n):b2 iq (aA cO (ao (ag 0) aD)) (eC (.int j)) δ= .ok (decide ((n:Int)=j)):=by
 refine ij (a:= .int n) (b:= .int j) (aP (ds:=[.tup ds]) (aN h rfl) ?_) rfl ?_
 ·show R.ok (D.int ds.length)=_
  rw[hl]
 ·show R.ok (D.bl ((n:Int)==j))=_
  congr 2
theorem vR{N:Nat}{xs:List M}(h:1≤xs.length∧xs.length≤3):fS [.tup (xs.map (mI N)),mI N one]= .ok (.tup [mI N (r0 xs),mI N (r1 xs)]):=by
 have hz:sizeLine=16777216:=sizeLine_eq
 unfold fS sr
 match xs,h with
 | [a],_=>
   refine dh (bc (di (qF (n:=1) rfl rfl) rfl) (bc (gR (d:=mI N a) (sW (qF (n:=1) rfl rfl) (aJ (a:= .tup [mI N a]) (b:= .int 0) rfl rfl Bm)) (by simp [cW,lC])) (cL ?_)))
   exact i5 (aN (aJ (a:=mI N one) (b:=mI N a) rfl rfl (uX N a)) (aN rfl rfl)) (by simp;omega)
 | [a,b],_=>
   refine dh (NT.j_ (mT (qF (n:=2) rfl rfl) (cL ?_)))
   exact i5 (aN (aJ (a:=mI N one) (b:=mI N fun p=>a p || b p) rfl (aJ (aJ rfl rfl Bm) (aJ rfl rfl CC) (AM N a b)) (uX N _)) (aN (aJ (aJ rfl rfl Bm) (aJ rfl rfl CC) (uh N a b)) rfl)) (by simp;omega)
 | [a,b,c],_=>
   refine dh (bc (di (qF (n:=3) rfl rfl) rfl) (bc (gR (d:=mI N fun p=>(a p && b p) || (a p && c p) || (b p && c p)) (sW (qF (n:=3) rfl rfl) (aP (ds:=[.tup [mI N a,mI N b,mI N c]]) rfl xM)) (by simp [cW,lC])) (cL ?_)))
   exact i5 (aN (aJ (a:=mI N one) (b:=mI N fun p=>(a p && b p) || (a p && c p) || (b p && c p)) rfl rfl (uX N _)) (aN rfl rfl)) (by simp;omega)
theorem BD{N n:Nat}{f:M}:f9 [mI N f, .int n]= .ok (.int (if decide (n < N) && f n then 1 else 0)):=by
 unfold f9 vB
 refine dh (cL ?_)
 have h:=Ha N f n
 show(R.bind (R.bind (R.ok (mI N f)) fun d=>R.bind (R.ok (D.int n)) fun e=>n4 d e) fun d=>R.bind (R.ok (D.int 1)) fun e=>Cm d e)=_
 exact h
theorem qN{bs:List Bool}(hl:bs.length < 100000):fM [.lst (bs.map bI)]= .ok (.int (Cj bs)):=by
 unfold fM rN
 refine dh (bc (gR (d:= .int 0) rfl (by simp [cW,n0])) ?_)
 obtain⟨δ1,e1,a2,hδ1⟩:=gJ (t:=bw 2) (body:=k7) (ds:=(bs.map bI).reverse)
  (fun i δ=>∃a2,δ=[.val (.lst (bs.map bI)), .val (.int (Cj (bs.drop (bs.length - i)))),a2]) (δ:=[.val (.lst (bs.map bI)), .val (.int 0), .un]) ⟨.un,by simp [Cj]⟩ (by
    rintro i d δ hd ⟨a2,rfl⟩
    have hi:i < bs.length:=by
     have:=(List.getElem?_eq_some_iff.mp hd).1
     rwa [List.length_reverse,List.length_map] at this
    rw[List.getElem?_reverse (by rw[List.length_map];exact hi),List.length_map,List.getElem?_map,List.getElem?_eq_getElem (by omega:bs.length - 1 - i < bs.length)] at hd
    cases hd
    have hdr:bs.drop (bs.length - (i+1))=bs[bs.length - 1 - i] ::bs.drop (bs.length - i):=by
     rw[show bs.length - (i+1)=bs.length - 1 - i by omega,List.drop_eq_getElem_cons (by omega:bs.length - 1 - i < bs.length),show bs.length - 1 - i+1=bs.length - i by omega]
    refine⟨_,?_,⟨.val (bI bs[bs.length - 1 - i]),rfl⟩⟩
    have hm:(Cj (bs.drop (bs.length - (i+1))):Int)=(Cj (bs.drop (bs.length - i)):Int)*2+(if bs[bs.length - 1 - i] then 1 else 0):=by
     rw[hdr]
     show(((if bs[bs.length - 1 - i] then 1 else 0)+2*Cj (bs.drop (bs.length - i)):Nat):Int)=_
     cases bs[bs.length - 1 - i] <;> simp <;> omega
    rw[hm]
    generalize (Cj (bs.drop (bs.length - i)):Int)=m
    generalize bs[bs.length - 1 - i]=x
    generalize D.lst (bs.map bI)=y
    rw[show bw 2 (bI x) [.val y, .val (.int m),a2]= .ok [.val y, .val (.int m), .val (bI x)] from rfl,R.aV]
    unfold k7
    exact gR (aJ (a:= .int (m*2)) (b:=bI x) (aJ (a:= .int m) (b:= .int 2) rfl rfl (cc _ (.inr ⟨by omega,by omega⟩))) rfl rfl) (by simp))
 refine bc (i_ (ds:=(bs.map bI).reverse) rfl e1) ?_
 rw[List.length_reverse,List.length_map,Nat.sub_self,List.drop_zero] at hδ1
 subst hδ1
 exact cL rfl
noncomputable def bS:Nat→List (List Bool)
 | 0=>[[]]
 | c+1=>(bS c).flatMap fun b=>[b++[false],b++[true]]
theorem cV:∀c,(bS c).length=2 ^ c
 | 0=>rfl
 | c+1=>by
   unfold bS
   rw[List.length_flatMap]
   have:(bS c).map (fun b=>[b++[false],b++[true]].length)=(bS c).map fun _=>2:=rfl
   rw[this,List.map_const',List.sum_replicate_nat,cV c]
   omega
theorem iG:∀c,∀b∈bS c,b.length=c
 | 0,b,h=>by unfold bS at h;rw [List.mem_singleton.mp h];rfl
 | c+1,b,h=>by
   unfold bS at h
   obtain⟨a,ha,hb⟩:=List.mem_flatMap.mp h
   have:=iG c a ha
   simp only[List.mem_cons,List.not_mem_nil,or_false] at hb
   rcases hb with rfl | rfl <;> simp [this]
noncomputable def cD(b:List Bool):D:= .tup (b.map bI)
noncomputable def aE(c:Nat)(inp:Option V3)(a2 a3 a4:Option V3):DE:=[some (.d (nI c)),inp,a2,a3,a4]
theorem rq{c:Nat}{S:aS}(hc:c≤10)(hS:qZ S){Q:V3→aS→Prop}(h:Q (.d (.lst ((bS c).map cD))) S):W3 (fH [.d (nI c)] S) Q:=by
 have hz:sizeLine=16777216:=sizeLine_eq
 unfold fH
 refine oP hS (uf rfl ?_)
 simp only[bX,iu,List.map_cons,List.map_nil,List.length_cons,List.length_nil,List.replicate,List.cons_append,List.nil_append,Nat.reduceAdd,Nat.reduceSub]
 unfold j2
 refine aW <| bA (by simp only[List.length_cons,List.length_nil,List.length_set];omega) <| jS (ds:=(bS 0).map cD) rfl ⟨_,rfl,?_⟩
 simp only[List.set_cons_succ,List.set_cons_zero]
 refine aW <| ik <| mf (eU (n:=c) rfl (by omega)) ?_
 refine(cH (fun i δ S2=>∃(T:aS) (a2 a3 a4:Option V3),S2=S++T++[.lst ((bS i).map cD)]∧δ=aE c (some (.loc (S++T).length)) a2 a3 a4)
  ⟨[],none,none,none,by simp,by simp [aE]⟩ ?_).mono fun o S2 ⟨δ2,e2',T,a2,a3,a4,hS2,hδ⟩=>⟨δ2,e2',?_⟩
 ·rintro i v δ S2 hv ⟨T,a2,a3,a4,rfl,rfl⟩
  have hi:i < c:=by
   have:=(List.getElem?_eq_some_iff.mp hv).1
   rwa [List.length_map,b_,List.length_map,List.length_range] at this
  have hpow:(bS i).length≤1024:=by
   rw[cV]
   exact Nat.pow_le_pow_right (by omega) (by omega:i≤10)
  refine⟨aE c (some (.loc (S++T).length)) (some v) a3 a4,rfl,?_⟩
  unfold kJ aE
  refine IC (i:=1) rfl (bH _ _) ?_
  rw[f6]
  simp only[List.set_cons_succ,List.set_cons_zero]
  refine aW <| bA (by simp only[List.length_cons,List.length_nil,List.length_set];omega) <| jS (ds:=[]) rfl ⟨_,rfl,?_⟩
  simp only[List.set_cons_succ,List.set_cons_zero]
  generalize hU:S++T++[SO.iA]=U
  refine aW <| ik <| mf (ds:=(bS i).map cD) rfl ?_
  refine(cH (fun j δ S3=>(∃b4,δ=[some (.d (nI c)),some (.d (.lst ((bS i).map cD))),some v,some (.loc U.length),b4])∧S3=U++[.lst ((((bS i).take j).flatMap fun b=>[b++[false],b++[true]]).map cD)])
   ⟨⟨_,rfl⟩,by simp⟩ ?_).mono fun o S3 ⟨δ3,e3,⟨b4,hδ3⟩,hS3⟩=>⟨δ3,e3,?_⟩
  ·rintro j v3 δ S3 hv3 ⟨⟨b4,rfl⟩,rfl⟩
   obtain⟨b,hb,rfl⟩:=NT.nJ hv3
   have hj:=(List.getElem?_eq_some_iff.mp hb).1
   have hbl:=iG i b (List.mem_of_getElem? hb)
   refine⟨[some (.d (nI c)),some (.d (.lst ((bS i).map cD))),some v,some (.loc U.length),some (.d (cD b))],rfl,?_⟩
   unfold kG
   generalize hL:((((bS i).take j).flatMap fun b=>[b++[false],b++[true]]).map cD)=L
   have hLl:L.length≤2048:=by
    rw[←hL,List.length_map,List.length_flatMap]
    have:((bS i).take j).map (fun b=>[b++[false],b++[true]].length)=((bS i).take j).map fun _=>2:=rfl
    rw[this,List.map_const',List.sum_replicate_nat,List.length_take]
    omega
   have add:∀(x:Bool) (δ:aw),ag 4 δ= .ok (cD b)→e2 lU (ag 4) (fA (ao (eC (bI x)) aD)) δ= .ok (cD (b++[x])):=fun x δ h4=>by
    refine aJ (a:=cD b) (b:= .tup [bI x]) h4 (i5 rfl (by simp;omega)) ?_
    show R.bZ (decide ((b.map bI).length+[bI x].length≤sizeLine)) _=_
    rw[cc _ (by rw[List.length_map];simp;omega)]
    unfold cD
    rw[List.map_append];rfl
   refine aW <| jQ (k:=U.length) rfl ⟨_,bH _ _⟩ <| dn (d:=cD (b++[false])) (add false _ rfl) ⟨_,_,rfl,bH _ _,by omega,_,rfl,?_⟩
   rw[f6]
   refine jQ (k:=U.length) rfl ⟨_,bH _ _⟩ <| dn (d:=cD (b++[true])) (add true _ rfl) ⟨_,_,rfl,bH _ _,by rw[List.length_append];simp;omega,_,rfl,⟨_,rfl⟩,?_⟩
   rw[f6,List.take_add_one,hb,List.flatMap_append,List.map_append,hL]
   simp
  rw[List.length_map,List.length_map,List.take_length] at hS3
  subst hδ3 hS3
  refine bA (by simp only[List.length_cons,List.length_nil,List.length_set];omega) <| w_var (v:= .loc U.length) rfl ⟨_,rfl,T++[SO.iA],some v,some (.loc U.length),b4,?_,?_⟩
  ·rw[←hU,List.append_assoc S];rfl
  ·rw[←hU,List.append_assoc S];rfl
 have hlen:((b_ 0 c).map V3.d).length=c:=by simp [b_]
 rw[hlen] at hS2
 subst hδ hS2
 unfold aE
 refine gq (w_var rfl ⟨_,rfl,by unfold fL;exact decide_eq_true (by rw[List.length_append];omega),⟨T++[.lst ((bS c).map cD)],by rw[List.append_assoc]⟩,_,by unfold res;rw [bH],h⟩)
end K11
end
section
set_option maxRecDepth 100000
set_option maxHeartbeats 4000000
namespace K11
open PySem PySem.Spec PyProof.Rows L2 L3 MT
noncomputable def Hd(c j:Nat):M:=fun p=>((bS c).getD p []).getD j false
noncomputable def tP(c:Nat):List M:=(List.range c).map (Hd c)
theorem Gu{b:List Bool}{j:Nat}(h:j < b.length):ck (cD b) (.int j)= .ok (bI (b.getD j false)):=by
 refine nW ?_
 rw[jw (by omega) (by rw[List.length_map,Int.toNat_natCast];exact h)]
 rw[List.getD_eq_getElem?_getD,List.getElem?_eq_getElem h]
 simp
theorem wG{c j:Nat}(hc:c≤10)(hj:j < c):iC [.lst ((bS c).map cD), .int j]= .ok (mI (2 ^ c) (Hd c j)):=by
 have hz:sizeLine=16777216:=sizeLine_eq
 have hp:2 ^ c≤1024:=Nat.pow_le_pow_right (by omega) hc
 unfold iC sd
 refine dh (cL (aP (ds:=[.lst (((bS c).map fun b=>b.getD j false).map bI)]) (aN (et (gh (ds:=(bS c).map cD) rfl (by rw[List.length_map,cV];omega) ?_)) rfl) ?_))
 ·rw[List.map_map]
  exact NT.dZ cD _ fun b hb=>⟨[.val (cD b), .val (.int j)],rfl,rfl,aJ (a:=cD b) (b:= .int j) rfl rfl (Gu (by rw[iG c b hb];exact hj))⟩
 ·rw[qN (by rw[List.length_map,cV];omega),AZ,List.length_map,cV]
  unfold mI
  congr 3
  refine lG fun p hp'=>?_
  unfold Hd
  rw[List.getD_eq_getElem?_getD,List.getElem?_map,List.getD_eq_getElem?_getD (l:=bS c),List.getElem?_eq_getElem (by rw[cV];exact hp')]
  rfl
section
variable {c:Nat} {ins:List (Str × Nat)} {gs:List Gt} {os:List (Str × List Nat)}
noncomputable abbrev yW:=Str.ofString "net"
noncomputable abbrev su:=Str.ofString "many_inputs"
noncomputable abbrev sJ:=Str.ofString "full"
noncomputable abbrev nP:=Str.ofString "in_masks"
noncomputable def cv(c:Nat)(nt:D):List (Str × V3):=[(yW, .d nt),(su, .d (nI (2 ^ c))),(sJ, .d (mI (2 ^ c) one)),(nP, .d (.lst ((tP c).map (mI (2 ^ c)))))]
theorem x4{S:aS}(hc:ins.length=c)(hc1:c≤10)(hS:qZ (S++[.ins 0 []])){Q:V3→aS→Prop}(h:Q (.d .cI) (S++[.ins 0 (cv c (bB ins gs os))])) :
 W3 (cf [.loc S.length, .d (bB ins gs os)] (S++[.ins 0 []])) Q:=by
 have hz:sizeLine=16777216:=sizeLine_eq
 have hp:2 ^ c≤1024:=Nat.pow_le_pow_right (by omega) hc1
 unfold cf
 refine JK rfl ?_
 simp only[bX,de,List.map_cons,List.map_nil,List.length_cons,List.length_nil,List.replicate,List.cons_append,List.nil_append,Nat.reduceAdd,Nat.reduceSub]
 unfold gG
 refine aW <| bA (by simp only[List.length_cons,List.length_nil,List.length_set];omega) <| dX <| aL <| dn (d:=nI c) (aP (ds:=[.lst (ins.map inD)]) rfl (by rw[kF,List.length_map,hc];rfl)) <| cU <| rq hc1 hS ⟨_,rfl,?_⟩
 simp only[List.set_cons_succ,List.set_cons_zero]
 refine aW <| nh (k:=S.length) <| dn (d:=bB ins gs os) rfl <| w_var (v:= .loc S.length) rfl ⟨_,rfl,bH _ _,by simp,_,rfl,?_⟩
 rw[f6]
 refine aW <| nh (k:=S.length) <| dn (d:=nI (2 ^ c)) (aP (ds:=[.lst ((bS c).map cD)]) rfl (by rw[kF,List.length_map,cV];rfl)) <| w_var (v:= .loc S.length) rfl ⟨_,rfl,bH _ _,by unfold va;simp,_,rfl,?_⟩
 rw[f6]
 refine aW <| nh (k:=S.length) <| dn (d:=mI (2 ^ c) one) (aP (ds:=[.lst (((bS c).map fun _=>true).map bI)]) (aN (et (gh (ds:=(bS c).map cD) rfl (by rw[List.length_map,cV];omega) ?_)) rfl) ?_) <| w_var (v:= .loc S.length) rfl ⟨_,rfl,bH _ _,?_,_,rfl,?_⟩
 ·rw[List.map_map]
  exact NT.dZ cD _ fun b hb=>⟨[.val (cD b)],rfl,rfl,rfl⟩
 ·rw[qN (by rw[List.length_map,cV];omega),AZ,List.length_map,cV]
  unfold mI
  congr 3
  refine lG fun p hp'=>?_
  rw[List.getD_eq_getElem?_getD,List.getElem?_map,List.getElem?_eq_getElem (by rw[cV];exact hp')]
  rfl
 ·exact(by decide:2 < 1000)
 rw[f6]
 refine nh (k:=S.length) <| dn (d:= .lst ((tP c).map (mI (2 ^ c)))) (et (gh (ds:=b_ 0 c) (eU (n:=c) (aP (ds:=[.lst (ins.map inD)]) rfl (by rw[kF,List.length_map,hc])) (by omega)) (by simp [b_];omega) ?_)) <| w_var (v:= .loc S.length) rfl ⟨_,rfl,bH _ _,?_,_,rfl,?_⟩
 ·unfold tP
  rw[List.map_map]
  unfold b_
  refine NT.dZ (fun i:Nat=>D.int (0+(i:Int))) _ fun j hj=>⟨[.val (.int (0+(j:Int))), .val (.lst ((bS c).map cD))],rfl,rfl,aP (ds:=[.lst ((bS c).map cD), .int j]) ?_ (wG hc1 (List.mem_range.mp hj))⟩
  rw[Int.zero_add]
  rfl
 ·exact(by decide:3 < 1000)
 rw[f6]
 exact h
end
end K11
end
section
set_option maxRecDepth 100000
set_option maxHeartbeats 4000000
namespace K11
open PySem PySem.Spec PyProof.Rows L2 L3 MT
section
variable {c:Nat} {ins:List (Str × Nat)} {gs:List Gt} {os:List (Str × List Nat)} {S:aS} {k:Nat} {turned bad:List Int}
theorem K5:(su==yW)=false:=by decide+kernel
theorem LF:(sJ==yW)=false:=by decide+kernel
theorem LU:(sJ==su)=false:=by decide+kernel
theorem LO:(nP==yW)=false:=by decide+kernel
theorem Lr:(nP==su)=false:=by decide+kernel
theorem Ln:(nP==sJ)=false:=by decide+kernel
theorem Am{nt:D}:(cv c nt).lookup yW=some (.d nt):=by unfold cv;rw [List.lookup_cons,beq_self_eq_true]
theorem Cw{nt:D}:(cv c nt).lookup su=some (.d (nI (2 ^ c))):=by unfold cv;rw [List.lookup_cons,K5,List.lookup_cons,beq_self_eq_true]
theorem sU{nt:D}:(cv c nt).lookup sJ=some (.d (mI (2 ^ c) one)):=by unfold cv;rw [List.lookup_cons,LF,List.lookup_cons,LU,List.lookup_cons,beq_self_eq_true]
theorem zU{nt:D}:(cv c nt).lookup nP=some (.d (.lst ((tP c).map (mI (2 ^ c))))):=by unfold cv;rw [List.lookup_cons,LO,List.lookup_cons,Lr,List.lookup_cons,Ln,List.lookup_cons,beq_self_eq_true]
theorem vn:(tP c).length=c:=by unfold tP;simp
noncomputable abbrev Wd(c:Nat)(ins:List (Str × Nat))(gs:List Gt)(turned bad:List Int):List M:=qC ins gs (tP c) turned bad
theorem Cu(m:Str)(nt:D)(h1:(m==yW)=false)(h2:(m==su)=false)(h3:(m==sJ)=false)(h4:(m==nP)=false):(cv c nt).lookup m=none:=by unfold cv;rw [List.lookup_cons,h1,List.lookup_cons,h2,List.lookup_cons,h3,List.lookup_cons,h4];rfl
theorem AR(NO:i8 ins gs os)(hc:ins.length=c)(hS:qZ S)(hb:S[k]? =some (.ins 0 (cv c (bB ins gs os)))){Q:V3→aS→Prop}(h:Q (.d (.lst (mC (2 ^ c) os (Wd c ins gs turned bad)))) S) :
 W3 (eH [.loc k, .d (.tup (turned.map .int)), .d (.tup (bad.map .int))] S) Q:=by
 have hz:sizeLine=16777216:=sizeLine_eq
 unfold eH
 refine oP hS (uf rfl ?_)
 simp only[bX,gP,List.map_cons,List.map_nil,List.length_cons,List.length_nil,List.replicate,List.cons_append,List.nil_append,Nat.reduceAdd,Nat.reduceSub]
 unfold jx
 have hl:(tP c).length=ins.length:=by rw[vn,hc]
 refine gq <| dX <| aL <| w_fld (k:=k) <| w_var (v:= .loc k) rfl ⟨_,_,rfl,hb,Am,?_⟩
 refine aL <| dX <| aL <| w_fld (k:=k) <| w_var (v:= .loc k) rfl ⟨_,_,rfl,hb,Am,?_⟩
 refine aL <| w_fld (k:=k) <| w_var (v:= .loc k) rfl ⟨_,_,rfl,hb,zU,?_⟩
 refine aL <| w_fld (k:=k) <| w_var (v:= .loc k) rfl ⟨_,_,rfl,hb,sU,?_⟩
 refine aL <| dn (d:= .tup (turned.map .int)) rfl <| aL <| dn (d:= .tup (bad.map .int)) rfl <| cU ?_
 refine BN (.inl rfl) NO hl hS (cU ?_)
 refine CH NO.ho (fun x hx=>⟨(NO.o x hx).1,fun w hw=>by rw[vt hl];exact(NO.o x hx).2 w hw⟩) hS ?_
 exact⟨_,rfl,by unfold fL;rfl,⟨[],by simp⟩,_,by unfold res;rfl,h⟩
noncomputable def Az(N:Nat)(os:List (Str × List Nat))(ws:List M):List D:=os.map fun x=> .tup [mI N (r0 (tell ws x)),mI N (r1 (tell ws x))]
theorem ox(NO:i8 ins gs os)(hc:ins.length=c)(ho:∀x∈os,1≤x.2.length∧x.2.length≤3)(hS:qZ S)(hb:S[k]? =some (.ins 0 (cv c (bB ins gs os)))){Q:V3→aS→Prop}(h:Q (.d (.lst (Az (2 ^ c) os (Wd c ins gs turned [])))) S) :
 W3 (cF [.loc k, .d (.tup (turned.map .int))] S) Q:=by
 have hz:sizeLine=16777216:=sizeLine_eq
 have hO:=NO.ho
 unfold cF
 refine oP hS (uf rfl ?_)
 simp only[bX,dM,List.map_cons,List.map_nil,List.length_cons,List.length_nil,List.replicate,List.cons_append,List.nil_append,Nat.reduceAdd,Nat.reduceSub]
 unfold gH
 refine gq <| pL (fun j ds S2=>S2=S∧ds=(Az (2 ^ c) os (Wd c ins gs turned [])).take j) ?_
 refine tf <| tS (k:=k) <| w_var (v:= .loc k) rfl ⟨_,rfl,hb,Cu _ _ (by decide+kernel) (by decide+kernel) (by decide+kernel) (by decide+kernel),?_⟩
 refine aL <| dn (d:= .tup (turned.map .int)) rfl <| aL <| dn (d:= .tup (([]:List Int).map .int)) rfl <| cU ?_
 refine AR NO hc hS hb ⟨_,rfl,?_,⟨rfl,by simp⟩,?_,?_⟩
 ·rw[List.length_map,mC,List.length_map];omega
 ·rintro j v ds S2 hv ⟨rfl,rfl⟩
  rw[mC] at hv
  obtain⟨x,hx,rfl⟩:=NT.nJ hv
  refine⟨[some (.d (.tup ((tell (Wd c ins gs turned []) x).map (mI (2 ^ c))))),some (.loc k)],rfl,rR ?_⟩
  rw[if_pos rfl]
  refine yf <| aL <| dn (d:= .tup ((tell (Wd c ins gs turned []) x).map (mI (2 ^ c)))) rfl <| aL <| w_fld (k:=k) <| w_var (v:= .loc k) rfl ⟨_,_,rfl,hb,sU,cU ⟨[.tup ((tell (Wd c ins gs turned []) x).map (mI (2 ^ c))),mI (2 ^ c) one],_,rfl,vR ?_,_,rfl,rfl,?_⟩⟩
  ·unfold tell;rw [List.length_map];exact ho x (List.mem_of_getElem? hx)
  ·unfold Az
   rw[List.take_add_one,List.getElem?_map,hx]
   rfl
 ·rintro ds S2 ⟨rfl,rfl⟩
  rw[List.length_map,mC,List.length_map,List.take_of_length_le (by rw[Az,List.length_map];exact Nat.le_refl _)]
  exact⟨_,rfl,by unfold fL;rfl,⟨[],by simp⟩,_,by unfold res;rfl,h⟩
end
end K11
end
section
set_option maxRecDepth 100000
set_option maxHeartbeats 4000000
namespace K11
open PySem PySem.Spec PyProof.Rows L2 L3 MT
noncomputable def KU(T:List Nat):D:= .tup (T.map nI)
mutual
theorem wA{n m:Nat}(h:n≤m):∀v:V3,kP n v=true→kP m v=true
 | .d _,_=>by unfold kP;rfl
 | .loc k,q=>by
   unfold kP at q ⊢
   exact decide_eq_true (Nat.lt_of_lt_of_le (of_decide_eq_true q) h)
 | .lst vs,q=>by unfold kP at q ⊢;exact jc h vs q
 | .tup vs,q=>by unfold kP at q ⊢;exact jc h vs q
theorem jc{n m:Nat}(h:n≤m):∀vs:List V3,hW n vs=true→hW m vs=true
 | [],_=>by unfold hW;rfl
 | v ::vs,q=>by
   unfold hW at q ⊢
   rw[Bool.and_eq_true] at q ⊢
   exact⟨wA h v q.1,jc h vs q.2⟩
end
theorem lK{n m:Nat}(h:n≤m)(o:SO)(q:o5 n o=true):o5 m o=true:=by
 cases o with
 | ins k fs=>exact jc h _ q
 | _=>rfl
noncomputable def pt(ws:List M)(x:Str × List Nat)(p:Nat):Bool × Bool:=IW ((tell ws x).map (· p))
noncomputable def nZ(ps:List Nat):List Int:=ps.map fun(n:Nat)=>(n:Int)
end K11
end
section
set_option maxRecDepth 100000
set_option maxHeartbeats 4000000
namespace K11
open PySem PySem.Spec PyProof.Rows L2 L3 MT
noncomputable abbrev Ci:Str:=Str.ofString "abcdefghijklmnopqrstuvwxyz"
noncomputable abbrev mm:List Str:=[Str.ofString "in",Str.ofString "gate",Str.ofString "sure",Str.ofString "out",Str.ofString "not",Str.ofString "and",Str.ofString "or",Str.ofString "xor",Str.ofString "vote"]
noncomputable def cP(i:Nat):Str:=⟨#[97+i]⟩
theorem yP:Ci.cps.toList=(List.range 26).map (97+·):=by decide+kernel
theorem Dy:Ci.length=26:=by decide+kernel
theorem B8{i:Int}(h0:0≤i)(h:i < 26):ck (.str Ci) (.int i)= .ok (.str (cP i.toNat)):=by
 have hz:sizeLine=16777216:=sizeLine_eq
 refine BU (by rw[Dy];omega) ?_
 rw[yP]
 rw[jw h0 (by simp;omega)]
 simp
theorem Bk:∀i:Nat,i < 26→Txt.find Ci (cP i)=(i:Int):=by decide+kernel
theorem fU(i:Nat):(cP i).length=1:=rfl
theorem lI(a b:Str):(a++b).length=a.length+b.length:=Str.length_append a b
theorem DK(p:Str)(i:Nat)(hp:p.length < 1000):ck (.str (p++cP i)) (.int (-1))= .ok (.str (cP i)):=by
 have hz:sizeLine=16777216:=sizeLine_eq
 refine BU (by rw[lI,fU];omega) ?_
 rw[pB]
 unfold oe qp
 have hl:(p.cps.toList++(cP i).cps.toList).length=p.cps.toList.length+1:=by rw[List.length_append];rfl
 rw[if_neg (by omega),hl,if_pos (by omega)]
 show(p.cps.toList++(cP i).cps.toList)[((-1:Int)+((p.cps.toList.length+1:Nat):Int)).toNat]? =_
 rw[show((-1:Int)+((p.cps.toList.length+1:Nat):Int)).toNat=p.cps.toList.length by omega,List.getElem?_append_right (Nat.le_refl _),Nat.sub_self]
 rfl
theorem BW(p:Str)(i:Nat):Txt.slice (p++cP i) none (some (-1))=p:=by
 have h:=slice_closes_to_neg (x:=p++cP i) (j:= -1) (k:=p.length) (by omega) (by rw[lI,fU];omega) (by rw[lI,fU];omega)
 have e:=beq_iff_eq.mp h
 rw[e]
 refine Dr ?_
 show((p++cP i).cps.toList.drop 0).take ((p.length:Int) - 0).toNat=_
 rw[pB,List.drop_zero,show((p.length:Int) - 0).toNat=p.cps.toList.length by simp [Str.length],List.take_left]
theorem CT{p:Str}{i j:Nat}(h:p++cP i=p++cP j):i=j:=by
 have h1:(p++cP i).cps.toList=(p++cP j).cps.toList:=by rw[h]
 rw[pB,pB] at h1
 have h2:[97+i]=[97+j]:=List.append_cancel_left h1
 have h3:97+i=97+j:=by simpa using h2
 omega
theorem za(ss:List Str)(hs:ss.length≤16)(p:Str)(c:Nat):∃t,t < 26∧¬(p++cP ((c+t) % 26))∈ss++mm:=by
 refine Classical.byContradiction fun hn=>?_
 have all:∀x∈(List.range 26).map (fun t=>p++cP ((c+t) % 26)),x∈ss++mm:=fun x hx=>by
  obtain⟨t,ht,rfl⟩:=List.mem_map.mp hx
  rw[List.mem_range] at ht
  refine Classical.byContradiction fun h=>hn ⟨t,ht,h⟩
 have nd:((List.range 26).map (fun t=>p++cP ((c+t) % 26))).Nodup:=by
  refine List.pairwise_map.mpr (List.Pairwise.imp_of_mem ?_ List.nodup_range)
  intro a b ha hb hab h
  rw[List.mem_range] at ha hb
  have:=CT h
  exact hab (by omega)
 have:=L2.Ar _ _ nd all
 rw[List.length_map,List.length_range,List.length_append] at this
 have hb:mm.length=9:=rfl
 omega
noncomputable def jD(k n:Nat)(many:V3)(kk nm j:Option V3):DE:=[some (.loc k),some many,some (.d (.str Ci)),some (.d (.lst (mm.map .str))),some (.loc n),kk,nm,j]
theorem xr(x:Str)(ss:List Str):pd (.str x) (.lst (ss.map .str))= .ok (.bl (ss.contains x)):=by
 show((match strs? (ss.map D.str) with | some tt=>R.ok (tt.contains x) | none=> .no)).bind (fun b=>R.ok (D.bl b))=_
 rw[L2.strs_map];rfl
theorem D0{k n:Nat}{many:V3}{kk j:Option V3}{S:aS}{ss:List Str}{x:Str}(e:S[n]? =some (.lst (ss.map .str))) :
 bT (so (b2 pd (ag 6) (ag 4)) (b2 pd (ag 6) (ag 3))) (jD k n many kk (some (.d (.str x))) j) S= .ok (decide (x∈ss++mm)) S:=by
 have h4:(bV S (jD k n many kk (some (.d (.str x))) j))[4]? =some (.val (.lst (ss.map .str))):=by
  unfold bV jD
  show some (match res S (.loc n) with | some d=>Sl.val d | none=> .un)=_
  unfold res
  simp only[e]
 have h3:(bV S (jD k n many kk (some (.d (.str x))) j))[3]? =some (.val (.lst (mm.map .str))):=rfl
 have h6:(bV S (jD k n many kk (some (.d (.str x))) j))[6]? =some (.val (.str x)):=rfl
 unfold bT
 generalize bV S (jD k n many kk (some (.d (.str x))) j)=δ at h3 h4 h6
 have e1:b2 pd (ag 6) (ag 4) δ= .ok (ss.contains x):=ij (a:= .str x) (b:= .lst (ss.map .str)) (by unfold ag;rw [h6]) (by unfold ag;rw [h4]) (xr _ _)
 have e3:b2 pd (ag 6) (ag 3) δ= .ok (mm.contains x):=ij (a:= .str x) (b:= .lst (mm.map .str)) (by unfold ag;rw [h6]) (by unfold ag;rw [h3]) (xr _ _)
 have:so (b2 pd (ag 6) (ag 4)) (b2 pd (ag 6) (ag 3)) δ= .ok (decide (x∈ss++mm)):=by
  unfold so
  rw[e1,R.aV,e3]
  by_cases h:x∈ss
  ·rw[if_pos (by simpa using h),decide_eq_true (List.mem_append_left _ h)]
  ·rw[if_neg (by simpa using h)]
   congr 1
   by_cases h2:x∈mm
   ·rw[decide_eq_true (List.mem_append_right _ h2)];simpa using h2
   ·rw[decide_eq_false (fun z=>(List.mem_append.mp z).elim h h2)];simpa using h2
 rw[this]
 rfl
theorem D1{k n:Nat}{many:V3}{kk j:Option V3}{S:aS}{p:Str}{c:Nat}(hp:p.length < 500)(hc:c < 26) :
 W3 (gS (jD k n many kk (some (.d (.str (p++cP c)))) j) S) fun o S1=>o= .nx (jD k n many kk (some (.d (.str (p++cP ((c+1) % 26))))) j)∧S1=S:=by
 have hz:sizeLine=16777216:=sizeLine_eq
 unfold gS
 refine bA (by unfold jD;simp only[List.length_cons,List.length_nil];omega) (dn (d:= .str (p++cP ((c+1) % 26))) ?_ ⟨rfl,rfl⟩)
 refine aJ (a:= .str p) (b:= .str (cP ((c+1) % 26))) ?_ ?_ (xC (by rw[fU];omega))
 ·refine kK (d:= .str (p++cP c)) (lo:=none) (hi:=some (-1)) rfl rfl rfl ?_
  rw[EW (by rw[lI,fU];omega),BW]
 ·refine aJ (a:= .str Ci) (b:= .int (((c:Int)+1) % 26)) rfl ?_ ?_
  ·refine aJ (a:= .int ((c:Int)+1)) (b:= .int 26) (aJ (a:= .int c) (b:= .int 1) ?_ rfl rfl) rfl (wY (by omega))
   refine Dj (x:=Ci) (ds:=[.str (cP c)]) rfl (aN (aJ (a:= .str (p++cP c)) (b:= .int (-1)) rfl rfl (DK p c (by omega))) rfl) ?_
   show R.ok (D.int (Txt.find Ci (cP c)))=_
   rw[Bk c hc]
  ·rw[B8 (by omega) (by omega)]
   congr 3
theorem uG{k n:Nat}{many:V3}{kk j:Option V3}{S:aS}{ss:List Str}{p:Str}(hp:p.length < 500)(e:S[n]? =some (.lst (ss.map .str))) :
 ∀(m ex c:Nat),c < 26→(∃t,t < m∧¬(p++cP ((c+t) % 26))∈ss++mm)→
 W3 (lr (bT (so (b2 pd (ag 6) (ag 4)) (b2 pd (ag 6) (ag 3)))) gS (m+ex) (jD k n many kk (some (.d (.str (p++cP c)))) j) S) fun o S1=>∃c',c' < 26∧o= .nx (jD k n many kk (some (.d (.str (p++cP c')))) j)∧S1=S
 | 0,_,_,_,⟨t,ht,_⟩=>by omega
 | m+1,ex,c,hc,⟨t,ht,hf⟩=>by
   rw[show m+1+ex=(m+ex)+1 by omega]
   unfold lr
   refine W3.bind (W3.eq (D0 e) ?_)
   by_cases hx:(p++cP c)∈ss++mm
   ·rw[decide_eq_true hx,if_pos rfl]
    refine W3.bind ((D1 hp hc).mono fun o S1 ⟨e1,e2'⟩=>?_)
    subst e1 e2'
    have ht0:t≠0:=fun z=>by subst z;rw [Nat.add_zero,Nat.mod_eq_of_lt hc] at hf;exact hf hx
    refine uG hp e m ex ((c+1) % 26) (by omega) ⟨t - 1,by omega,?_⟩
    rw[show((c+1) % 26+(t - 1)) % 26=(c+t) % 26 by omega]
    exact hf
   ·rw[decide_eq_false hx,if_neg (by decide)]
    exact W3.ok ⟨c,hc,rfl,rfl⟩
end K11
end
section
set_option maxRecDepth 100000
set_option maxHeartbeats 4000000
namespace K11
open PySem PySem.Spec PyProof.Rows L2 L3 MT
structure ud (k g:Nat) (L:List D) (S S1:aS):Prop where
 p:nB k S1
 len:S1.length=S.length
 oth:∀j,j≠k→j≠g→S1[j]? =S[j]?
 gl:S1[g]? =some (.lst L)
theorem ud.then{k g:Nat}{L:List D}{S S1 S2:aS}(a:ud k g L S S1)(h:g≠k)(b:Ev k S1 S2):ud k g L S S2:=⟨b.p,b.len.trans a.len,fun j h1 h2=>(b.oth j h1).trans (a.oth j h1 h2),(b.oth g h).trans a.gl⟩
theorem ud.put{k g:Nat}{L L':List D}{S S1:aS}(a:ud k g L S S1)(h:g≠k):ud k g L' S (S1.set g (.lst L')):=by
 obtain⟨hL,x,c,e⟩:=a.p
 exact⟨⟨hL.set _ (lX _),x,c,by rw[List.getElem?_set_ne h];exact e⟩,by rw[List.length_set];exact a.len,fun j h1 h2=>by rw[List.getElem?_set_ne (Ne.symm h2)];exact a.oth j h1 h2,jq a.gl⟩
theorem nB.push{k:Nat}{S:aS}(p:nB k S)(L:List D):nB k (S++[.lst L]):=by
 have h:=p.lt
 obtain⟨hL,a,c,e⟩:=p
 exact⟨hL.push (lX _),a,c,by rw[List.getElem?_append_left h];exact e⟩
theorem ud.sV{k:Nat}{S:aS}(p:nB k S)(L:List D):ud k S.length L (S++[.lst L]) (S++[.lst L]):=⟨p.push L,rfl,fun _ _ _=>rfl,bH _ _⟩
noncomputable def p6:List Str:=[Str.ofString "",Str.ofString "",Str.ofString "zz",Str.ofString "qrst"]++mm
theorem A_(r:Int)(h0:0≤r)(h:r < 13):∃s:Str,s.length≤4∧ck (.lst (p6.map .str)) (.int r)= .ok (.str s):=by
 have hl:p6.length=13:=rfl
 have hlen:∀s∈p6,s.length≤4:=by decide+kernel
 refine⟨p6[r.toNat]'(by omega),hlen _ (List.getElem_mem _),jA ?_⟩
 rw[jw h0 (by rw[List.length_map];omega)]
 simp
theorem zj{k n:Nat}{many:V3}{kk nm j:Option V3}{S S1:aS}{ss:List Str}(hn:n≠k)(hl:ss.length≤15)(E:ud k n (ss.map .str) S S1) :
 W3 (jz (jD k n many kk nm j) S1) fun o S2=>∃δ2,o= .nx δ2∧(∃a b,δ2=jD k n many kk a b)∧∃x:Str,ud k n ((ss++[x]).map .str) S S2:=by
 have hz:sizeLine=16777216:=sizeLine_eq
 unfold jz
 refine aW (bA (by unfold jD;simp only[List.length_cons,List.length_nil];omega) (yN (dn (d:= .lst (p6.map .str)) ?_ (draw (k:=k) rfl E.p rfl (by omega) (by omega) fun r S2 h1 h2 v2=>?_))))
 ·exact aJ (a:= .lst ([Str.ofString "",Str.ofString "",Str.ofString "zz",Str.ofString "qrst"].map .str)) (b:= .lst (mm.map .str)) (et (m4 rfl (by simp;omega))) rfl (lx (by simp;omega))
 obtain⟨s,hs,es⟩:=A_ r h1 h2
 refine⟨_,_,_,rfl,rfl,es,_,rfl,?_⟩
 have E2:=E.then hn v2
 show W3 (bz _ _ (jD k n many kk (some (.d (.str s))) j) S2) _
 refine aW (ik (nQ (Ep (k:=k) rfl E2.p (by omega) (by omega) fun r2 S3 h3 h4 v3=>⟨r2,rfl,by omega,?_⟩)))
 have E3:=E2.then hn v3
 refine(cH (fun i δ S4=>∃(x:Str) (a:Option V3),δ=jD k n many kk (some (.d (.str x))) a∧x.length≤4+i∧(i=0∨∃p c,c < 26∧x=p++cP c)∧ud k n (ss.map .str) S S4)
  ⟨s,j,rfl,by omega, .inl rfl,E3⟩ ?_).mono fun o S4 ⟨δ4,e4,x,a,hδ,hx,hx2,E4⟩=>⟨δ4,e4,?_⟩
 ·rintro i v δ S4 hv ⟨x,a,rfl,hx,hx2,E4⟩
  refine⟨jD k n many kk (some (.d (.str x))) (some v),rfl,?_⟩
  have hi:i < 10:=by
   have:=(List.getElem?_eq_some_iff.mp hv).1
   rw[List.length_map,b_,List.length_map,List.length_range] at this
   omega
  unfold lW
  refine bA (by unfold jD;simp only[List.length_cons,List.length_nil];omega) (Ak (dn (d:= .str x) rfl (yN (dn (d:= .str Ci) rfl (draw (k:=k) rfl E4.p rfl (by omega) (by omega) fun r5 S5 h5 h6 v5=>?_)))))
  refine⟨_,_,_,rfl,rfl,B8 h5 h6,_,_, .str (x++cP r5.toNat),rfl,rfl,xC (by rw[fU];omega),_,rfl,x++cP r5.toNat,some v,rfl,by rw[lI,fU];omega, .inr ⟨x,r5.toNat,by omega,rfl⟩,E4.then hn v5⟩
 rw[List.length_map,b_,List.length_map,List.length_range] at hx hx2
 subst hδ
 obtain⟨p,c,hc,rfl⟩:∃p c,c < 26∧x=p++cP c:=hx2.resolve_left (by omega)
 have hp:p.length < 500:=by rw[lI,fU] at hx;omega
 refine aW ?_
 unfold wc
 refine(uG (n:=n) (ss:=ss) hp E4.gl 26 974 c hc (za ss (by omega) p c)).mono fun o S5 ⟨c',hc',e5,e6⟩=>⟨_,e5,?_⟩
 subst e6
 refine jQ (k:=n) rfl ⟨_,E4.gl⟩ (dn (d:= .str (p++cP c')) rfl ⟨_,_,rfl,E4.gl,by rw[List.length_map];omega,_,rfl,⟨_,_,rfl⟩,p++cP c',?_⟩)
 rw[List.map_append]
 exact E4.put hn
theorem zR{S:aS}{k:Nat}{m:Nat}(p:nB k S)(hm:m≤15){Q:V3→aS→Prop}(h:∀(ss:List Str) S1,ss.length=m→Ev k S S1→Q (.d (.lst (ss.map .str))) S1):W3 (f7 [.loc k, .d (.int m)] S) Q:=by
 have hz:sizeLine=16777216:=sizeLine_eq
 have hk:=p.lt
 unfold f7
 refine qG (uf rfl ?_)
 simp only[bX,jd,List.map_cons,List.map_nil,List.length_cons,List.length_nil,List.replicate,List.cons_append,List.nil_append,Nat.reduceAdd,Nat.reduceSub]
 unfold kW
 refine aW (bA (by simp only[List.length_cons,List.length_nil,List.length_set];omega) (dn (d:= .str Ci) rfl ⟨_,rfl,?_⟩))
 simp only[List.set_cons_succ,List.set_cons_zero]
 refine aW (bA (by simp only[List.length_cons,List.length_nil,List.length_set];omega) (dn (d:= .lst (mm.map .str)) (et (m4 rfl (by simp;omega))) ⟨_,rfl,?_⟩))
 simp only[List.set_cons_succ,List.set_cons_zero]
 refine aW (bA (by simp only[List.length_cons,List.length_nil,List.length_set];omega) (jS (ds:=[]) rfl ⟨_,rfl,?_⟩))
 simp only[List.set_cons_succ,List.set_cons_zero]
 have g0:=ud.sV p []
 have hgk:S.length≠k:=by omega
 refine aW (ik (mf (eU (n:=m) rfl (by omega)) ?_))
 refine(cH (fun i δ S4=>(∃a b c,δ=jD k S.length (.d (.int m)) a b c)∧∃ss:List Str,ss.length=i∧ud k S.length (ss.map .str) (S++[SO.lst []]) S4) ⟨⟨_,_,_,rfl⟩,[],rfl,g0⟩ ?_).mono fun o S4 ⟨δ4,e4,⟨a,b,c,hδ⟩,ss,hl,g4⟩=>⟨δ4,e4,?_⟩
 ·rintro i v δ S4 hv ⟨⟨a,b,c,rfl⟩,ss,hl,g4⟩
  have hi:i < 15:=by
   have:=(List.getElem?_eq_some_iff.mp hv).1
   rw[List.length_map,b_,List.length_map,List.length_range] at this
   omega
  refine⟨jD k S.length (.d (.int m)) (some v) b c,rfl,?_⟩
  exact(zj hgk (by omega) g4).mono fun o S5 ⟨δ5,e5,⟨a5,b5,h5⟩,x,g5⟩=>⟨δ5,e5,⟨some v,a5,b5,h5⟩,ss++[x],by simp [hl],g5⟩
 rw[List.length_map,b_,List.length_map,List.length_range] at hl
 subst hδ
 unfold jD
 refine gq (w_var rfl ⟨_,rfl,g4.p.1,?_, .lst (ss.map .str),?_,?_⟩)
 ·unfold fL;exact decide_eq_true (Nat.le_refl _)
 ·unfold res;simp only[g4.gl]
 ·refine h ss _ hl ⟨⟨g4.p.1.take _,?_⟩,?_,?_⟩
  ·obtain⟨_,a,c,e⟩:=g4.p
   exact⟨a,c,by rw[List.getElem?_take_of_lt hk];exact e⟩
  ·have:=g4.len
   rw[List.length_append,List.length_singleton] at this
   rw[List.length_take];omega
  ·intro j hj
   by_cases hjl:j < S.length
   ·rw[List.getElem?_take_of_lt hjl,g4.oth _ hj (by omega),List.getElem?_append_left hjl]
   ·have:=g4.len
    rw[List.length_append,List.length_singleton] at this
    rw[List.getElem?_eq_none (by rw[List.length_take];omega),List.getElem?_eq_none (by omega)]
end K11
end
section
set_option maxRecDepth 100000
set_option maxHeartbeats 4000000
namespace K11
open PySem PySem.Spec PyProof.Rows L2 L3 MT
theorem jC{n i:Nat}{d:D}(h:(b_ 0 n)[i]? =some d):i < n∧d= .int i:=by
 rw[b_,List.getElem?_map] at h
 cases q:(List.range n)[i]? with
 | none=>rw [q] at h;cases h
 | some j=>
   rw[q] at h;cases h
   obtain⟨q1,q2⟩:=List.getElem?_eq_some_iff.mp q
   rw[List.getElem_range] at q2
   rw[List.length_range] at q1
   subst q2
   exact⟨q1,by simp⟩
theorem ne_int(n:Int):tI (.int n) (.int n)= .ok (.bl false):=by
 have:tI (.int n) (.int n)= .ok (.bl (!decide (n=n))):=rfl
 rw[this,decide_eq_true rfl];rfl
theorem nV{ds:List D}{i:Nat}{x:D}(h:ds[i]? =some x):oe ds (i:Int)=some x:=by
 obtain⟨h1,h2⟩:=List.getElem?_eq_some_iff.mp h
 rw[jw (by omega) (by rw[Int.toNat_natCast];exact h1)]
 simp [h2]
section
variable {gs:List Gt}
theorem Ip{i:Nat}{g:Gt}(h:gs[i]? =some g):ck (.lst (gs.map iK)) (.int i)= .ok (iK g):=by
 obtain⟨h1,h2⟩:=List.getElem?_eq_some_iff.mp h
 refine jA ?_
 rw[jw (by omega) (by rw[List.length_map,Int.toNat_natCast];exact h1)]
 simp [h2]
end
section
variable {S:aS} {δ:DE} {k q i:Nat} {ks:List Int}
theorem xS{Q:V3→aS→Prop}{f:FD}{m:Int}(hv:δ[i]? =some (some (.loc k)))(p:nB k S)(hf:f (bV S δ)= .ok (.int m))(hm:0 < m)(hm2:m < 1000000)
 (h:∀(r:Int) S1,0≤r→r < m→Ev k S S1→Q (.d (.int r)) S1):W3 (bU az (ay (bL i) (ay (xT f) bW)) δ S) Q:=
 dX (aL (w_var hv (aL (t7 hf rfl (cU (tu p hm (rT hm hm2) h))))))
theorem je{ds:List D}(e:S[q]? =some (.lst ds)):res S (.loc q)=some (.lst ds):=by unfold res;rw [e]
theorem ju(e:S[q]? =some (.lst (ks.map .int)))(hi:δ[i]? =some (some (.loc q))):aA cO (ao (ag i) aD) (bV S δ)= .ok (.int ks.length):=by
 refine aP (ds:=[.lst (ks.map .int)]) (aN ?_ rfl) (by rw[kF,List.length_map])
 unfold ag bV
 rw[List.getElem?_map,hi]
 show(match some (match res S (.loc q) with | some d=>Sl.val d | none=> .un) with | some (.val d)=>R.ok d | _=> .no)=_
 rw[je e]
theorem zY{w:Nat}(h:w < ks.length):ck (.lst (ks.map .int)) (nI w)= .ok (.int ks[w]):=jA (nV (by rw[List.getElem?_map,List.getElem?_eq_getElem h];rfl))
theorem xI{own:List Str}{kp:List Nat}{it:FA}{w:Nat}{Q:V3→aS→Prop}(e:S[q]? =some (.lst (ks.map .int)))(hw:w < ks.length)(hn:ks.length < 10000)(hkp:eB own kp δ=[none,some (.loc q),some (.d (nI w))])
 (hit:W3 (it δ S) fun vs S1=>vs=(b_ 0 ks.length).map .d∧S1=S) (h:∀l:List Nat,0 < l.length→l.length < 10000→(∀x∈l,x < ks.length∧ks.getD x 0=ks.getD w 0)→Q (.d (.lst (l.map nI))) S) :
 W3 (jO it (ky 0) (bT (b2 iq (e2 ck (ag 1) (ag 0)) (e2 ck (ag 1) (ag 2)))) (xP (ag 0)) own kp δ S) Q:=by
 have hz:sizeLine=16777216:=sizeLine_eq
 refine pL (fun i ds S2=>S2=S∧∃l:List Nat,ds=l.map nI∧(∀x∈l,x < ks.length∧ks.getD x 0=ks.getD w 0)∧l.length≤i∧(w < i→0 < l.length)) (hit.mono fun vs S1 ⟨e1,e2'⟩=>?_)
 subst e1 e2'
 have hlen:((b_ 0 ks.length).map V3.d).length=ks.length:=by simp [b_]
 rw[hlen]
 refine⟨by omega,⟨rfl,[],rfl,by simp,by simp,by omega⟩,?_,?_⟩
 ·rintro i v ds S2 hv ⟨rfl,l,rfl,hl,hli,hw'⟩
  rw[hkp]
  rw[List.getElem?_map] at hv
  cases qq:(b_ 0 ks.length)[i]? with
  | none=>rw [qq] at hv;cases hv
  | some d0=>
    rw[qq] at hv
    obtain⟨hi,rfl⟩:=jC qq
    cases hv
    refine⟨[some (.d (.int i)),some (.loc q),some (.d (nI w))],rfl,Aw (b:=decide (ks[i]=ks[w])) ?_ ?_⟩
    ·have hT:bV S2 [some (.d (.int i)),some (.loc q),some (.d (nI w))]=[.val (nI i), .val (.lst (ks.map .int)), .val (nI w)]:=by
      simp only[bV,List.map_cons,List.map_nil,je e]
      rfl
     rw[hT]
     exact ij (a:= .int ks[i]) (b:= .int ks[w]) (aJ (a:= .lst (ks.map .int)) (b:=nI i) rfl rfl (zY hi)) (aJ (a:= .lst (ks.map .int)) (b:=nI w) rfl rfl (zY hw)) rfl
    ·by_cases hc:ks[i]=ks[w]
     ·rw[decide_eq_true hc,if_pos rfl]
      refine dn rfl ⟨nI i,rfl,rfl,l++[i],by simp,?_,by simp;omega,by simp⟩
      intro x hx
      rcases List.mem_append.mp hx with z | z
      ·exact hl x z
      ·rw[List.mem_singleton] at z;subst z;exact⟨hi,by rw[List.getD_eq_getElem?_getD,List.getD_eq_getElem?_getD,List.getElem?_eq_getElem hi,List.getElem?_eq_getElem hw,hc]⟩
     ·rw[decide_eq_false hc,if_neg (by decide)]
      refine⟨rfl,l,rfl,hl,by omega,fun hwi=>hw' ?_⟩
      have:w≠i:=fun z=>hc (by subst z;rfl)
      omega
 ·rintro ds S2 ⟨rfl,l,rfl,hl,hli,hw'⟩
  exact h l (hw' hw) (by omega) hl
theorem yw{f:FX}{fm:FD}{l:List Nat}{Q:V3→aS→Prop}(hf:W3 (f δ S) fun v S1=>v= .d (.lst (l.map nI))∧S1=S)(hv:δ[i]? =some (some (.loc k)))(p:nB k S)(hm:fm (down δ)= .ok (.int l.length))(hl:0 < l.length)(hl2:l.length < 10000)
 (h:∀x S1,x∈l→Ev k S S1→Q (.d (nI x)) S1):W3 (yQ f (bU az (ay (bL i) (ay (xP fm) bW))) δ S) Q:=by
 refine yN (hf.mono fun v S1 ⟨e1,e2'⟩=>?_)
 subst e1 e2'
 refine draw hv p hm (by omega) (by omega) fun r S2 h1 h2 v2=>⟨_,_,nI (l[r.toNat]'(by omega)),rfl,rfl,jA ?_,h _ S2 (List.getElem_mem _) v2⟩
 rw[jw h1 (by rw[List.length_map];omega)]
 simp
end
noncomputable def EA:List D:=[.str (Str.ofString "not"), .str (Str.ofString "and"), .str (Str.ofString "or"), .str (Str.ofString "xor"), .str (Str.ofString "vote"), .str (Str.ofString "xor"), .str (Str.ofString "and")]
noncomputable def Jw:List (Key × V):=[((Sum.inr (Str.ofString "not"):Key),V.int 1),((Sum.inr (Str.ofString "vote"):Key),V.int 3)]
theorem Cr(r:Nat)(h:r < 7):∃kd,kd≤4∧ck (.lst EA) (.int r)= .ok (.str (kS kd))∧(match k6 (jt [] Jw) (Sum.inr (kS kd)) with | some (.int i)=>R.ok (D.int i) | none=> .ok (.int 2) | _=> .no)= .ok (.int (ar kd)):=by
 match r,h with
 | 0,_=>exact⟨0,by omega,rfl,rfl⟩
 | 1,_=>exact⟨1,by omega,rfl,rfl⟩
 | 2,_=>exact⟨2,by omega,rfl,rfl⟩
 | 3,_=>exact⟨3,by omega,rfl,rfl⟩
 | 4,_=>exact⟨4,by omega,rfl,rfl⟩
 | 5,_=>exact⟨3,by omega,rfl,rfl⟩
 | 6,_=>exact⟨1,by omega,rfl,rfl⟩
theorem wU{S:aS}{δ:DE}{i o:Nat}{ws:List Nat}(hi:δ[i]? =some (some (.loc o)))(e:S[o]? =some (.lst (ws.map nI))):aA fK (ao (ag i) aD) (bV S δ)= .ok (.tup (ws.map nI)):=by
 refine aP (ds:=[.lst (ws.map nI)]) (aN ?_ rfl) rfl
 unfold ag bV
 rw[List.getElem?_map,hi]
 show(match some (match res S (.loc o) with | some d=>Sl.val d | none=> .un) with | some (.val d)=>R.ok d | _=> .no)=_
 rw[je e]
theorem mV(ws:List Nat):jF (.tup (ws.map nI))=true:=by
 unfold jF
 induction ws with
 | nil=>unfold jj;rfl
 | cons w ws ih=>rw [List.map_cons];unfold jj;rw [ih];rfl
noncomputable def Ik{S:aS}{k:Nat}{d:D}{Q:V3→aS→Prop}(h:∀S1,Ev k S S1→Q (.d d) S1){S2:aS}{L:List D}{g:Nat}(E:ud k g L (S++[SO.lst []]) S2)(hg:g=S.length)(hk:k < S.length):Flat S2∧fL S.length (.d d)=true∧∃d',res S2 (.d d)=some d'∧Q (.d d') (S2.take S.length):=by
 subst hg
 refine⟨E.p.1,by unfold fL;rfl,d,by unfold res;rfl,h _ ⟨⟨E.p.1.take _,?_⟩,?_,?_⟩⟩
 ·obtain⟨_,a,c,e⟩:=E.p
  exact⟨a,c,by rw[List.getElem?_take_of_lt hk];exact e⟩
 ·have:=E.len
  rw[List.length_append,List.length_singleton] at this
  rw[List.length_take];omega
 ·intro j hj
  by_cases hjl:j < S.length
  ·rw[List.getElem?_take_of_lt hjl,E.oth _ hj (by omega),List.getElem?_append_left hjl]
  ·have:=E.len
   rw[List.length_append,List.length_singleton] at this
   rw[List.getElem?_eq_none (by rw[List.length_take];omega),List.getElem?_eq_none (by omega)]
noncomputable def IU(k q o:Nat)(ms kd mn:D)(a6 a7 a8:Option V3):DE:=[some (.loc k),some (.loc q),some (.d ms),some (.d kd),some (.d mn),some (.loc o),a6,a7,a8]
theorem y7{S:aS}{k q:Nat}{ks:List Int}{ms:Int}(p:nB k S)(hq:q≠k)(e:S[q]? =some (.lst (ks.map .int)))(h0:0 < ks.length)(hn:ks.length < 10000){Q:V3→aS→Prop}(h:∀g S1,lh ks.length g→Ev k S S1→Q (.d (iK g)) S1) :
 W3 (fW [.loc k, .loc q, .d (.int ms)] S) Q:=by
 have hz:sizeLine=16777216:=sizeLine_eq
 have hk:=p.lt
 have hql:q < S.length:=(List.getElem?_eq_some_iff.mp e).1
 unfold fW
 refine qG (uf rfl ?_)
 simp only[bX,kf,List.map_cons,List.map_nil,List.length_cons,List.length_nil,List.replicate,List.cons_append,List.nil_append,Nat.reduceAdd,Nat.reduceSub]
 unfold me
 refine aW <| bA (by simp only[List.length_cons,List.length_nil,List.length_set];omega) <| yN <| dn (d:= .lst EA) rfl <| draw (k:=k) rfl p rfl (by omega) (by omega) fun r S1 h1 h2 v1=>?_
 obtain⟨kd,hkd,e1,e2'⟩:=Cr r.toNat (by omega)
 rw[Int.toNat_of_nonneg h1] at e1
 refine⟨_,_,_,rfl,rfl,e1,_,rfl,?_⟩
 simp only[List.set_cons_succ,List.set_cons_zero]
 refine aW <| bA (by simp only[List.length_cons,List.length_nil,List.length_set];omega) <| dn (d:= .int (ar kd)) e2' ⟨_,rfl,?_⟩
 simp only[List.set_cons_succ,List.set_cons_zero]
 refine aW <| bA (by simp only[List.length_cons,List.length_nil,List.length_set];omega) <| jS (ds:=[]) rfl ⟨_,rfl,?_⟩
 simp only[List.set_cons_succ,List.set_cons_zero]
 have har:=uK kd
 have hl1:=v1.len
 have E1:=ud.sV v1.p []
 have hok:S1.length≠k:=by omega
 have eq1:S1[q]? =some (.lst (ks.map .int)):=by rw[v1.oth q hq];exact e
 refine aW <| ik <| mf (eU (n:=ar kd) rfl (by omega)) ?_
 refine(cH (fun i δ S2=>(∃a b c,δ=IU k q S1.length (.int ms) (.str (kS kd)) (.int (ar kd)) a b c)∧∃ws:List Nat,ws.length=i∧(∀w∈ws,w < ks.length)∧ud k S1.length (ws.map nI) (S1++[SO.lst []]) S2)
  ⟨⟨_,_,_,rfl⟩,[],rfl,by simp,E1⟩ ?_).mono fun o S2 ⟨δ2,e3,⟨a,b,c,hδ⟩,ws,hwl,hws,E2⟩=>⟨δ2,e3,?_⟩
 ·rintro i v δ S2 hv ⟨⟨a,b,c,rfl⟩,ws,hwl,hws,E2⟩
  have hi:i < 3:=by
   have:=(List.getElem?_eq_some_iff.mp hv).1
   rw[List.length_map,b_,List.length_map,List.length_range] at this
   omega
  refine⟨IU k q S1.length (.int ms) (.str (kS kd)) (.int (ar kd)) (some v) b c,rfl,?_⟩
  unfold nv IU
  refine aW <| bA (by simp only[List.length_cons,List.length_nil,List.length_set];omega) <| draw (k:=k) rfl E2.p rfl (by omega) (by omega) fun r3 S3 h3 h4 v3=>⟨_,rfl,?_⟩
  simp only[List.set_cons_succ,List.set_cons_zero]
  have E3:=E2.then hok v3
  have eq3:S3[q]? =some (.lst (ks.map .int)):=by rw[E3.oth q hq (by omega),List.getElem?_append_left (by omega)];exact eq1
  refine aW <| bA (by simp only[List.length_cons,List.length_nil,List.length_set];omega) <| xS (k:=k) rfl E3.p (ju eq3 rfl) (by omega) (by omega) fun r4 S4 h5 h6 v4=>⟨_,rfl,?_⟩
  simp only[List.set_cons_succ,List.set_cons_zero]
  have E4:=E3.then hok v4
  have eq4:S4[q]? =some (.lst (ks.map .int)):=by rw[E4.oth q hq (by omega),List.getElem?_append_left (by omega)];exact eq1
  refine aW ?_
  have kc:W3 (yF (bP (b2 iq (ag 7) (eC (.int 1)))) (cA 8 (xT (e2 iZ (e2 iZ (aA cO (ao (ag 1) aD)) (eC (.int 1))) (e2 g9 (ag 8) (aA oS (ao (aA cO (ao (ag 1) aD)) (ao (eC (.int 4)) aD))))))) pj
   [some (.loc k),some (.loc q),some (.d (.int ms)),some (.d (.str (kS kd))),some (.d (.int (ar kd))),some (.loc S1.length),some v,some (.d (.int r3)),some (.d (.int r4))] S4)
   fun o S5=>S5=S4∧∃w:Nat,w < ks.length∧o= .nx [some (.loc k),some (.loc q),some (.d (.int ms)),some (.d (.str (kS kd))),some (.d (.int (ar kd))),some (.loc S1.length),some v,some (.d (.int r3)),some (.d (nI w))]:=by
   refine sT (EV (b:=decide (r3=1)) rfl ?_)
   by_cases hr:r3=1
   ·rw[decide_eq_true hr,if_pos rfl]
    have hmn:∃mn:Int,0 < mn∧mn≤ks.length∧oS [.int ks.length, .int 4]= .ok (.int mn):=⟨if(4:Int) < ks.length then 4 else ks.length,by split <;> omega,by split <;> omega,rfl⟩
    obtain⟨mn,m1,m2,m3⟩:=hmn
    have b1:0≤r4 % mn:=Int.emod_nonneg _ (by omega)
    have b2':r4 % mn < mn:=Int.emod_lt_of_pos _ m1
    refine bA (by simp only[List.length_cons,List.length_nil,List.length_set];omega) (t7 (d:=nI ((ks.length:Int) - 1 - r4 % mn).toNat) ?_ rfl ⟨rfl,((ks.length:Int) - 1 - r4 % mn).toNat,by omega,rfl⟩)
    refine aJ (a:= .int ((ks.length:Int) - 1)) (b:= .int (r4 % mn)) (aJ (a:= .int ks.length) (b:= .int 1) (ju eq4 rfl) rfl rfl) (aJ (a:= .int r4) (b:= .int mn) rfl (aP (ds:=[.int ks.length, .int 4]) (aN (ju eq4 rfl) rfl) m3) (wY m1)) ?_
    show R.ok (D.int ((ks.length:Int) - 1 - r4 % mn))=R.ok (D.int ((((ks.length:Int) - 1 - r4 % mn).toNat:Nat):Int))
    rw[Int.toNat_of_nonneg (by omega)]
   ·rw[decide_eq_false hr,if_neg (by decide)]
    refine ml ⟨rfl,r4.toNat,by omega,?_⟩
    unfold nI
    rw[Int.toNat_of_nonneg h5]
  refine kc.mono fun o S5 ⟨e5,w,hw,eo⟩=>⟨_,eo,?_⟩
  subst e5
  refine jQ (k:=S1.length) rfl ⟨_,E4.gl⟩ (dn (d:=nI w) rfl ⟨_,_,rfl,E4.gl,by rw[List.length_map];omega,_,rfl,⟨_,_,_,rfl⟩,ws++[w],by simp [hwl],?_,?_⟩)
  ·intro x hx
   rcases List.mem_append.mp hx with z | z
   ·exact hws x z
   ·rw[List.mem_singleton] at z;subst z;exact hw
  ·rw[List.map_append]
   exact E4.put hok
 rw[List.length_map,b_,List.length_map,List.length_range] at hwl
 subst hδ
 unfold IU
 refine gq <| rW <| aL <| dn (d:= .str (kS kd)) rfl <| aL <| t7 (d:= .tup (ws.map nI)) (wU rfl E2.gl) (mV ws) <| aL <| Ak <| draw (k:=k) rfl E2.p rfl (by omega) (by omega) fun r6 S6 h7 h8 v6=>dn (d:= .int ms) rfl ⟨_,_, .bl (decide (r6 < ms)),rfl,rfl,rfl,cU ⟨by simp;omega,_,rfl,?_⟩⟩
 have E6:=E2.then hok v6
 show Flat S6∧fL S.length (.d (iK (kd,ws,decide (r6 < ms))))=true∧∃d',res S6 (.d (iK (kd,ws,decide (r6 < ms))))=some d'∧_
 have hl6:S6.length=S.length+1:=by rw[E6.len];simp [hl1]
 refine⟨E6.p.1,by unfold fL;rfl,_,by unfold res;rfl,h _ _ ⟨hkd,hwl,hws⟩ ⟨⟨E6.p.1.take _,?_⟩,by rw[List.length_take];omega,fun j hj=>?_⟩⟩
 ·obtain⟨_,a,c,e⟩:=E6.p
  exact⟨a,c,by rw[List.getElem?_take_of_lt hk];exact e⟩
 ·by_cases hjl:j < S.length
  ·rw[List.getElem?_take_of_lt hjl,E6.oth _ hj (by omega),List.getElem?_append_left (by omega)]
   exact v1.oth j hj
  ·rw[List.getElem?_eq_none (by rw[List.length_take];omega),List.getElem?_eq_none (by omega)]
end K11
end
section
set_option maxRecDepth 100000
set_option maxHeartbeats 4000000
namespace K11
open PySem PySem.Spec PyProof.Rows L2 L3 MT
noncomputable def bE(k q o:Nat)(g:D)(a4 a5:Option V3):DE:=[some (.loc k),some (.d g),some (.loc q),some (.loc o),a4,a5]
theorem xh{S:aS}{k q:Nat}{ks:List Int}{g:Gt}(p:nB k S)(hq:q≠k)(e:S[q]? =some (.lst (ks.map .int)))(hg:lh ks.length g)(hn:ks.length < 10000){Q:V3→aS→Prop}(h:∀g' S1,lh ks.length g'→g'.1=g.1→g'.2.1.map (ks.getD · 0)=g.2.1.map (ks.getD · 0)→Ev k S S1→Q (.d (iK g')) S1) :
 W3 (gf [.loc k, .d (iK g), .loc q] S) Q:=by
 have hz:sizeLine=16777216:=sizeLine_eq
 have hk:=p.lt
 have har:=uK g.1
 have hql:q < S.length:=(List.getElem?_eq_some_iff.mp e).1
 unfold gf
 refine qG (uf rfl ?_)
 simp only[bX,gW,List.map_cons,List.map_nil,List.length_cons,List.length_nil,List.replicate,List.cons_append,List.nil_append,Nat.reduceAdd,Nat.reduceSub]
 unfold kT
 refine aW <| bA (by simp only[List.length_cons,List.length_nil,List.length_set];omega) <| jS (ds:=[]) rfl ⟨_,rfl,?_⟩
 simp only[List.set_cons_succ,List.set_cons_zero]
 have E1:=ud.sV p []
 have hok:S.length≠k:=by omega
 refine aW <| ik <| mf (ds:=g.2.1.map nI) rfl ?_
 refine(cH (fun i δ S2=>(∃a b,δ=bE k q S.length (iK g) a b)∧∃ws:List Nat,ws.length=i∧(∀w∈ws,w < ks.length)∧ws.map (ks.getD · 0)=(g.2.1.take i).map (ks.getD · 0)∧ud k S.length (ws.map nI) (S++[SO.lst []]) S2)
  ⟨⟨_,_,rfl⟩,[],rfl,by simp,by simp,E1⟩ ?_).mono fun o S2 ⟨δ2,e3,⟨a,b,hδ⟩,ws,hwl,hws,hwk,E2⟩=>⟨δ2,e3,?_⟩
 ·rintro i v δ S2 hv ⟨⟨a,b,rfl⟩,ws,hwl,hws,hwk,E2⟩
  have hi:i < 3:=by
   have:=(List.getElem?_eq_some_iff.mp hv).1
   rw[List.length_map,List.length_map,hg.2.1] at this
   omega
  obtain⟨w,hwi,rfl⟩:=NT.nJ hv
  have hwn:=hg.2.2 w (List.mem_of_getElem? hwi)
  have eq2:S2[q]? =some (.lst (ks.map .int)):=by rw[E2.oth q hq (by omega),List.getElem?_append_left hql];exact e
  refine⟨bE k q S.length (iK g) (some (.d (nI w))) b,rfl,?_⟩
  unfold lT bE
  refine aW <| bA (by simp only[List.length_cons,List.length_nil,List.length_set];omega) <| xI (q:=q) eq2 hwn hn rfl (nQ (t7 (d:= .int ks.length) (ju eq2 rfl) rfl ⟨ks.length,rfl,by omega,rfl,rfl⟩)) fun l hl0 hl1 hl2=>⟨_,rfl,?_⟩
  simp only[List.set_cons_succ,List.set_cons_zero]
  refine jQ (k:=S.length) rfl ⟨_,E2.gl⟩ (yw (k:=k) (l:=l) (dn rfl ⟨rfl,rfl⟩) rfl E2.p (aP (ds:=[.lst (l.map nI)]) rfl (by rw[kF,List.length_map])) hl0 hl1 fun x S3 hx v3=>?_)
  have E3:=E2.then hok v3
  refine⟨nI x,_,rfl,E3.gl,by rw[List.length_map];omega,_,rfl,⟨_,_,rfl⟩,ws++[x],by simp [hwl],?_,?_,?_⟩
  ·intro y hy
   rcases List.mem_append.mp hy with z | z
   ·exact hws y z
   ·rw[List.mem_singleton] at z;subst z;exact(hl2 _ hx).1
  ·rw[List.take_add_one,hwi,List.map_append,List.map_append,hwk]
   show _++[ks.getD x 0]=_++[ks.getD w 0]
   rw[(hl2 _ hx).2]
  ·rw[List.map_append]
   exact E3.put hok
 rw[List.length_map,List.length_map] at hwl hwk
 rw[List.take_length] at hwk
 subst hδ
 unfold bE
 refine gq <| rW <| aL <| dn (d:= .str (kS g.1)) rfl <| aL <| t7 (d:= .tup (ws.map nI)) (wU rfl E2.gl) (mV ws) <| aL <| Ak <| draw (k:=k) rfl E2.p rfl (by omega) (by omega) fun r6 S6 h7 h8 v6=>dn (d:= .int 0) rfl ⟨_,_, .bl (decide (r6=0)),rfl,rfl,rfl,cU ⟨by simp;omega,_,rfl,?_⟩⟩
 have E6:=E2.then hok v6
 exact Ik (d:=iK (g.1,ws,decide (r6=0))) (fun S1 v=>h _ _ ⟨hg.1,by show ws.length=_;rw [hwl];exact hg.2.1,hws⟩ rfl hwk v) E6 rfl hk
structure OS (k o:Nat) (L:List D) (S S1:aS):Prop where
 p:nB k S1
 len:S.length+1≤S1.length
 oth:∀j,j < S.length→j≠k→S1[j]? =S[j]?
 gl:S1[o]? =some (.lst L)
theorem OS.then{k o:Nat}{L:List D}{S S1 S2:aS}(a:OS k o L S S1)(h:o≠k)(b:Ev k S1 S2):OS k o L S S2:=⟨b.p,by rw[b.len];exact a.len,fun j h1 h2=>(b.oth j h2).trans (a.oth j h1 h2),(b.oth o h).trans a.gl⟩
theorem OS.set{k o m:Nat}{L M:List D}{S S1:aS}(a:OS k o L S S1)(h1:m≠k)(h2:m≠o)(h3:S.length≤m):OS k o L S (S1.set m (.lst M)):=by
 obtain⟨f,x,c,e⟩:=a.p
 exact⟨⟨f.set _ (lX _),x,c,by rw[List.getElem?_set_ne h1];exact e⟩,by rw[List.length_set];exact a.len,fun j hj hk=>by rw[List.getElem?_set_ne (by omega)];exact a.oth j hj hk,by rw[List.getElem?_set_ne h2];exact a.gl⟩
theorem OS.push{k o:Nat}{L M:List D}{S S1:aS}(a:OS k o L S S1)(ho:o < S1.length):OS k o L S (S1++[.lst M]):=
 ⟨a.p.push M,by rw[List.length_append];have:=a.len;omega,fun j hj hk=>by rw[List.getElem?_append_left (by have:=a.len;omega)];exact a.oth j hj hk,by rw[List.getElem?_append_left ho];exact a.gl⟩
theorem OS.put{k o:Nat}{L L':List D}{S S1:aS}(a:OS k o L S S1)(h1:o≠k)(h3:S.length≤o):OS k o L' S (S1.set o (.lst L')):=by
 obtain⟨f,x,c,e⟩:=a.p
 exact⟨⟨f.set _ (lX _),x,c,by rw[List.getElem?_set_ne h1];exact e⟩,by rw[List.length_set];exact a.len,fun j hj hk=>by rw[List.getElem?_set_ne (by omega)];exact a.oth j hj hk,jq a.gl⟩
noncomputable def oE(k q o:Nat)(ss:List Str)(a5 a6 a7 a8 a9 a10:Option V3):DE:=[some (.loc k),some (.loc q),some (.d (.lst (ss.map .str))),some (.d (.int 6)),some (.loc o),a5,a6,a7,a8,a9,a10]
noncomputable def Hi:List D:=[.int 1, .int 1, .int 2, .int 2, .int 3, .int 3]
theorem Fv(r:Nat)(h:r < 6):∃w:Nat,1≤w∧w≤3∧ck (.lst Hi) (.int r)= .ok (nI w):=by
 match r,h with
 | 0,_=>exact⟨1,by omega,by omega,rfl⟩
 | 1,_=>exact⟨1,by omega,by omega,rfl⟩
 | 2,_=>exact⟨2,by omega,by omega,rfl⟩
 | 3,_=>exact⟨2,by omega,by omega,rfl⟩
 | 4,_=>exact⟨3,by omega,by omega,rfl⟩
 | 5,_=>exact⟨3,by omega,by omega,rfl⟩
theorem anew{S S1:aS}{k q o m:Nat}{ks:List Int}{L:List D}{ss:List Str}{i wd:Nat}{way lim:Int}{at':Nat}{a6 a7:Option V3}{ws:List Nat}(hq:q≠k)(hqS:q < S.length)(ho:o≠k)(hmk:m≠k)(hmo:m≠o)(hm:S.length≤m)(h0:0 < ks.length)(hn:ks.length < 10000)
 (eS:S[q]? =some (.lst (ks.map .int))) (hwl:ws.length=wd) (hat:at' < 3) (hws:∀w∈ws,w < ks.length) (E:OS k o L S S1) (em:S1[m]? =some (.lst (ws.map nI))) :
 W3 (yF (bP (lL (b2 iq (ag 8) (eC (.int 3))) (b2 vG (ag 10) (eC (.int lim))))) (we (bL 9) (xP (eC (nI at'))) (bU az (ay (bL 0) (ay (xT (aA cO (ao (ag 1) aD))) bW)))) pj
  (oE k q o ss (some (.d (nI i))) a6 a7 (some (.d (nI wd))) (some (.loc m)) (some (.d (.int way)))) S1)
  fun ou S2=>ou= .nx (oE k q o ss (some (.d (nI i))) a6 a7 (some (.d (nI wd))) (some (.loc m)) (some (.d (.int way))))∧OS k o L S S2∧∃ws':List Nat,ws'.length=wd∧(∀w∈ws',w < ks.length)∧(wd≠3→ws'=ws)∧S2[m]? =some (.lst (ws'.map nI)):=by
 have eq1:S1[q]? =some (.lst (ks.map .int)):=by rw[E.oth q hqS hq];exact eS
 obtain⟨c,hc,hc3⟩:∃c:Bool,lL (b2 iq (ag 8) (eC (.int 3))) (b2 vG (ag 10) (eC (.int lim))) (down (oE k q o ss (some (.d (nI i))) a6 a7 (some (.d (nI wd))) (some (.loc m)) (some (.d (.int way)))))= .ok c∧(c=true→wd=3):=by
  have e1:b2 iq (ag 8) (eC (.int 3)) (down (oE k q o ss (some (.d (nI i))) a6 a7 (some (.d (nI wd))) (some (.loc m)) (some (.d (.int way)))))= .ok (decide ((wd:Int)=3)):=rfl
  have e3:b2 vG (ag 10) (eC (.int lim)) (down (oE k q o ss (some (.d (nI i))) a6 a7 (some (.d (nI wd))) (some (.loc m)) (some (.d (.int way)))))= .ok (decide (lim < way)):=rfl
  unfold lL
  rw[e1,R.aV,e3]
  by_cases h3:(wd:Int)=3
  ·exact⟨_,by rw[decide_eq_true h3,if_pos rfl],fun _=>by omega⟩
  ·exact⟨false,by rw[decide_eq_false h3,if_neg (by decide)],fun z=>by cases z⟩
 refine sT (EV hc ?_)
 cases c with
 | true=>
   rw[if_pos rfl]
   have hwd:=hc3 rfl
   refine AU (xS (k:=k) rfl E.p (ju eq1 rfl) (by omega) (by omega) fun r S2 h1 h2 v2=>w_var (v:= .loc m) rfl (dn (d:=nI at') rfl ⟨_,m,(at':Int),ws.map nI,at',rfl,rfl,rfl,by rw[v2.oth m hmk];exact em,?_,rfl,(E.then ho v2).set hmk hmo hm,ws.set at' r.toNat,by rw[List.length_set];exact hwl,?_,fun z=>absurd hwd z,?_⟩))
   ·unfold qp
    rw[if_pos (by omega),if_pos (by rw[List.length_map];omega)]
    simp
   ·intro w hw
    rcases List.mem_or_eq_of_mem_set hw with z | z
    ·exact hws w z
    ·subst z;omega
   ·rw[jq (x:= .lst (ws.map nI)) (by rw[v2.oth m hmk];exact em),List.map_set]
    unfold nI
    rw[Int.toNat_of_nonneg h1]
 | false=>
   rw[if_neg (by decide)]
   exact ml ⟨rfl,E,ws,hwl,hws,fun _=>rfl,em⟩
theorem Bx{S S1:aS}{k q o:Nat}{ks:List Int}{ss:List Str}{i:Nat}{a6 a7 a8 a9 a10:Option V3}{os:List (Str × List Nat)}(hq:q≠k)(hk:k < S.length)(ho:o=S.length)(h0:0 < ks.length)(hn:ks.length < 10000)(hss:ss.length=8)(hi:i < 6)(hl:os.length < 100)(eS:S[q]? =some (.lst (ks.map .int)))(E:OS k o (os.map i0) S S1) :
 W3 (kr (oE k q o ss (some (.d (nI i))) a6 a7 a8 a9 a10) S1) fun ou S2=>∃δ2,ou= .nx δ2∧(∃b5 b6 b7 b8 b9 b10,δ2=oE k q o ss b5 b6 b7 b8 b9 b10)∧∃x:Str × List Nat,((1≤x.2.length∧x.2.length≤3)∧(∀w∈x.2,w < ks.length)∧∀a b,x.2=[a,b]→ks.getD a 0=ks.getD b 0)∧OS k o ((os++[x]).map i0) S S2:=by
 have hz:sizeLine=16777216:=sizeLine_eq
 have hqS:q < S.length:=(List.getElem?_eq_some_iff.mp eS).1
 have hok:o≠k:=by omega
 have keq:∀{S2:aS} {L:List D},OS k o L S S2→S2[q]? =some (.lst (ks.map .int)):=fun E2=>by rw[E2.oth q hqS hq];exact eS
 unfold kr oE
 refine aW <| bA (by simp only[List.length_cons,List.length_nil,List.length_set];omega) <| Ak <| t7 (d:= .int ((ks.length:Int) - 1)) (aJ (a:= .int ks.length) (b:= .int 1) (ju (keq E) rfl) rfl rfl) rfl <| xS (k:=k) rfl E.p (ju (keq E) rfl) (by omega) (by omega) fun r S2 h1 h2 v2=>⟨_,_,nI ((ks.length:Int) - 1 - r).toNat,rfl,rfl,?_,_,rfl,?_⟩
 ·show R.ok (D.int ((ks.length:Int) - 1 - r))=R.ok (D.int ((((ks.length:Int) - 1 - r).toNat:Nat):Int))
  rw[Int.toNat_of_nonneg (by omega)]
 simp only[List.set_cons_succ,List.set_cons_zero]
 have hw:((ks.length:Int) - 1 - r).toNat < ks.length:=by omega
 generalize ((ks.length:Int) - 1 - r).toNat=w at hw
 have E2:=E.then hok v2
 refine aW <| bA (by simp only[List.length_cons,List.length_nil,List.length_set];omega) <| xI (q:=q) (keq E2) hw hn rfl (nQ (t7 (d:= .int ks.length) (ju (keq E2) rfl) rfl ⟨ks.length,rfl,by omega,rfl,rfl⟩)) fun l hl0 hl1 hl2=>⟨_,rfl,?_⟩
 simp only[List.set_cons_succ,List.set_cons_zero]
 refine aW <| bA (by simp only[List.length_cons,List.length_nil,List.length_set];omega) <| yN <| dn (d:= .lst Hi) rfl <| draw (k:=k) rfl E2.p rfl (by omega) (by omega) fun r3 S3 h3 h4 v3=>?_
 obtain⟨wd,hw1,hw3,ewd⟩:=Fv r3.toNat (by omega)
 rw[Int.toNat_of_nonneg h3] at ewd
 refine⟨_,_,_,rfl,rfl,ewd,_,rfl,?_⟩
 simp only[List.set_cons_succ,List.set_cons_zero]
 have E3:=E2.then hok v3
 refine aW <| bA (by simp only[List.length_cons,List.length_nil,List.length_set];omega) <| Ew <| dn (d:= .lst [nI w]) rfl ?_
 refine pL (fun j ds S4=>OS k o (os.map i0) S S4∧∃ws:List Nat,ds=ws.map nI∧(∀x∈ws,x < ks.length∧ks.getD x 0=ks.getD w 0)∧ws.length=j) (mf (eU (n:=wd - 1) ?_ (by omega)) ⟨by simp [b_];omega,⟨E3,[],rfl,by simp,rfl⟩,?_,?_⟩)
 ·refine aJ (a:=nI wd) (b:= .int 1) rfl rfl ?_
  show R.ok (D.int ((wd:Int) - 1))=R.ok (D.int (((wd - 1:Nat)):Int))
  rw[Int.ofNat_sub hw1];rfl
 ·rintro j v ds S4 hv ⟨E4,ws,rfl,hws,hwl⟩
  refine⟨[some v,some (.loc k),some (.d (.lst (l.map nI)))],rfl,rR ?_⟩
  rw[if_pos rfl]
  refine yw (k:=k) (l:=l) (dn rfl ⟨rfl,rfl⟩) rfl E4.p (aP (ds:=[.lst (l.map nI)]) rfl (by rw[kF,List.length_map])) hl0 hl1 fun x S5 hx v5=>⟨nI x,rfl,E4.then hok v5,ws++[x],by simp,?_,by simp [hwl]⟩
  intro y hy
  rcases List.mem_append.mp hy with z | z
  ·exact hws y z
  ·rw[List.mem_singleton] at z;subst z;exact hl2 _ hx
 ·rintro ds S4 ⟨E4,ws,rfl,hws,hwl⟩
  have hrl:((b_ 0 (wd - 1)).map V3.d).length=wd - 1:=by simp [b_]
  rw[hrl] at hwl
  refine⟨[nI w],ws.map nI,rfl,rfl,by rw[List.length_map];simp;omega,_,rfl,?_⟩
  simp only[List.set_cons_succ,List.set_cons_zero]
  have hle:=E4.len
  have ho4:o < S4.length:=(List.getElem?_eq_some_iff.mp E4.gl).1
  have E5:=E4.push (M:=[nI w]++ws.map nI) ho4
  have em5:(S4++[SO.lst ([nI w]++ws.map nI)])[S4.length]? =some (.lst ((w ::ws).map nI)):=bH _ _
  have hmk:S4.length≠k:=by omega
  have hmo:S4.length≠o:=by omega
  have hmS:S.length≤S4.length:=by omega
  have hws1:∀x∈w ::ws,x < ks.length:=fun x hx=>by
   rcases List.mem_cons.mp hx with z | z
   ·subst z;exact hw
   ·exact(hws x z).1
  generalize S4++[SO.lst ([nI w]++ws.map nI)]=S5 at E5 em5
  generalize S4.length=m at em5 hmk hmo hmS
  refine aW <| bA (by simp only[List.length_cons,List.length_nil,List.length_set];omega) <| draw (k:=k) rfl E5.p rfl (by omega) (by omega) fun way S6 h5 h6 v6=>⟨_,rfl,?_⟩
  simp only[List.set_cons_succ,List.set_cons_zero]
  have E6:=E5.then hok v6
  have em6:S6[m]? =some (.lst ((w ::ws).map nI)):=by rw[v6.oth m hmk];exact em5
  refine aW ((anew (ss:=ss) (i:=i) (wd:=wd) (way:=way) (lim:=0) (at':=2) hq hqS hok hmk hmo hmS h0 hn eS (by simp;omega) (by omega) hws1 E6 em6).mono fun ou S7 ⟨e7,E7,ws7,hl7,hw7,hs7,em7⟩=>⟨_,e7,?_⟩)
  refine aW ((anew (ss:=ss) (i:=i) (wd:=wd) (way:=way) (lim:=1) (at':=1) hq hqS hok hmk hmo hmS h0 hn eS hl7 (by omega) hw7 E7 em7).mono fun ou S8 ⟨e8,E8,ws8,hl8,hw8,hs8,em8⟩=>⟨_,e8,?_⟩)
  unfold oE
  refine jQ (k:=o) rfl ⟨_,E8.gl⟩ (t7 (d:=i0 (ss[i]'(by omega),ws8)) ?_ ?_ ⟨_,_,rfl,E8.gl,by rw[List.length_map];omega,_,rfl,⟨_,_,_,_,_,_,rfl⟩,(ss[i]'(by omega),ws8),⟨⟨by show 1≤ws8.length;omega,by show ws8.length≤3;omega⟩,hw8,?_⟩,?_⟩)
  ·refine i5 (aN (aJ (a:= .lst (ss.map .str)) (b:=nI i) rfl rfl (jA (nV (by rw[List.getElem?_map,List.getElem?_eq_getElem (by omega)];rfl)))) (aN (wU rfl em8) rfl)) (by simp;omega)
  ·unfold i0 jF jj
   rw[show jF (.str _)=true from by unfold jF;rfl]
   unfold jj
   rw[mV]
   unfold jj
   rfl
  ·intro a b hab
   have hab:ws8=[a,b]:=hab
   have h2:wd=2:=by rw[←hl8,hab];rfl
   rw[hs8 (by omega),hs7 (by omega)] at hab
   cases hab
   exact((hws b (by simp)).2).symm
  ·rw[List.map_append]
   exact E8.put hok (by omega)
theorem zA{S:aS}{k q:Nat}{ks:List Int}{ss:List Str}(p:nB k S)(hq:q≠k)(e:S[q]? =some (.lst (ks.map .int)))(h0:0 < ks.length)(hn:ks.length < 10000)(hss:ss.length=8){Q:V3→aS→Prop}
 (h:∀(os:List (Str × List Nat)) S1,1≤os.length→os.length < 100→(∀x∈os,(1≤x.2.length∧x.2.length≤3)∧(∀w∈x.2,w < ks.length)∧∀a b,x.2=[a,b]→ks.getD a 0=ks.getD b 0)→Ev k S S1→Q (.d (.lst (os.map i0))) S1):W3 (gZ [.loc k, .loc q, .d (.lst (ss.map .str)), .d (.int 6)] S) Q:=by
 have hz:sizeLine=16777216:=sizeLine_eq
 have hk:=p.lt
 unfold gZ
 refine qG (uf rfl ?_)
 simp only[bX,gB,List.map_cons,List.map_nil,List.length_cons,List.length_nil,List.replicate,List.cons_append,List.nil_append,Nat.reduceAdd,Nat.reduceSub]
 unfold ma
 refine aW <| bA (by simp only[List.length_cons,List.length_nil,List.length_set];omega) <| jS (ds:=[]) rfl ⟨_,rfl,?_⟩
 simp only[List.set_cons_succ,List.set_cons_zero]
 have E1:OS k S.length (([]:List (Str × List Nat)).map i0) S (S++[.lst []]):=⟨p.push [],by simp,fun j hj _=>List.getElem?_append_left hj,bH _ _⟩
 refine aW <| ik <| nQ <| Ak <| dn (d:= .int 1) rfl <| draw (k:=k) rfl E1.p rfl (by omega) (by omega) fun r S2 h1 h2 v2=>⟨_,_, .int ((1+r).toNat:Nat),rfl,rfl,by rw[Int.toNat_of_nonneg (by omega)];rfl,(1+r).toNat,rfl,by omega,?_⟩
 have E2:=E1.then (by omega) v2
 refine(cH (fun i δ S3=>(∃b5 b6 b7 b8 b9 b10,δ=oE k q S.length ss b5 b6 b7 b8 b9 b10)∧∃os:List (Str × List Nat),os.length=i∧(∀x∈os,(1≤x.2.length∧x.2.length≤3)∧(∀w∈x.2,w < ks.length)∧∀a b,x.2=[a,b]→ks.getD a 0=ks.getD b 0)∧OS k S.length (os.map i0) S S3)
  ⟨⟨_,_,_,_,_,_,rfl⟩,[],rfl,by simp,E2⟩ ?_).mono fun o S3 ⟨δ3,e3,⟨b5,b6,b7,b8,b9,b10,hδ⟩,os,hol,hos,E3⟩=>⟨δ3,e3,?_⟩
 ·rintro i v δ S3 hv ⟨⟨b5,b6,b7,b8,b9,b10,rfl⟩,os,hol,hos,E3⟩
  rw[List.getElem?_map] at hv
  cases qq:(b_ 0 (1+r).toNat)[i]? with
  | none=>rw [qq] at hv;cases hv
  | some d0=>
    rw[qq] at hv
    obtain⟨hi,rfl⟩:=jC qq
    cases hv
    refine⟨oE k q S.length ss (some (.d (nI i))) b6 b7 b8 b9 b10,rfl,?_⟩
    refine(Bx hq hk rfl h0 hn hss (by omega) (by omega) e E3).mono fun ou S4 ⟨δ4,e4,h4,x,hx,E4⟩=>⟨δ4,e4,h4,os++[x],by simp [hol],?_,E4⟩
    intro y hy
    rcases List.mem_append.mp hy with z | z
    ·exact hos y z
    ·rw[List.mem_singleton] at z;subst z;exact hx
 have hrl:((b_ 0 (1+r).toNat).map V3.d).length=(1+r).toNat:=by simp [b_]
 rw[hrl] at hol
 subst hδ
 unfold oE
 refine gq (w_var rfl ⟨_,rfl,E3.p.1,by unfold fL;exact decide_eq_true (Nat.le_refl _),_,je E3.gl,?_⟩)
 have hle:=E3.len
 refine h os _ (by omega) (by omega) hos ⟨⟨E3.p.1.take _,?_⟩,by rw[List.length_take];omega,fun j hj=>?_⟩
 ·obtain⟨_,a,c,e⟩:=E3.p
  exact⟨a,c,by rw[List.getElem?_take_of_lt hk];exact e⟩
 ·by_cases hjl:j < S.length
  ·rw[List.getElem?_take_of_lt hjl,E3.oth _ hjl hj]
  ·rw[List.getElem?_eq_none (by rw[List.length_take];omega),List.getElem?_eq_none (by omega)]
end K11
end
section
set_option maxRecDepth 100000
set_option maxHeartbeats 4000000
namespace K11
open PySem PySem.Spec PyProof.Rows L2 L3 MT
structure IS (k a b:Nat) (l:List (Str × Nat)) (ks:List Int) (S S1:aS):Prop where
 p:nB k S1
 len:S.length+2≤S1.length
 oth:∀j,j < S.length→j≠k→S1[j]? =S[j]?
 ea:S1[a]? =some (.lst (l.map MT.inD))
 eb:S1[b]? =some (.lst (ks.map .int))
 hb:S.length < b
noncomputable def iE(mi ms:Int)(k a b:Nat)(cells:D)(ss:List Str)(a7 a8:Option V3):DE:=[some (.loc k),some (.d cells),some (.d (.int mi)),some (.d (.int ms)),some (.d (.lst (ss.map .str))),some (.loc a),some (.loc b),a7,a8,none,none,none,none,none]
theorem zM(c:Int)(n:Nat):(List.replicate n [D.int c]).flatten=(List.replicate n c).map D.int:=by
 induction n with
 | zero=>rfl
 | succ n ih=>rw [List.replicate_succ,List.flatten_cons,ih,List.replicate_succ];rfl
theorem FN{f:aw→R (List D)}{g:FD}{δ:aw}{ds:List D}{n:Nat}(h1:f δ= .ok ds)(h2:g δ= .ok (.int n))(hn:n < 1000000)(hl:ds.length*n≤sizeLine):DN f g δ= .ok (List.replicate n ds).flatten:=by
 unfold DN
 rw[h1,R.aV,h2,R.aV]
 show R.bZ (decide (0≤(n:Int)∧(n:Int) < 1000000∧ds.length*(n:Int).toNat≤sizeLine)) _=_
 rw[cc _ ⟨by omega,by omega,by rw[Int.toNat_natCast];exact hl⟩,Int.toNat_natCast]
theorem CB{mi ms:Int}{S S1:aS}{k a b i:Nat}{cells:D}{ss:List Str}{a8:Option V3}{l:List (Str × Nat)}{ks:List Int}(hk:k < S.length)(ha:a=S.length)(hss:ss.length=8)(hi:i < 6)(hl:l.length < 100)(hks:ks.length < 1000)(E:IS k a b l ks S S1) :
 W3 (lg (iE mi ms k a b cells ss (some (.d (nI i))) a8) S1) fun o S2=>∃δ2,o= .nx δ2∧∃b' a8',δ2=iE mi ms k a b' cells ss (some (.d (nI i))) a8'∧∃(s:Str) (w:Nat),1≤w∧w≤3∧IS k a b' (l++[(s,w)]) (ks++List.replicate w (i:Int)) S S2:=by
 have hz:sizeLine=16777216:=sizeLine_eq
 have hbS:=E.hb
 have hbl:b < S1.length:=(List.getElem?_eq_some_iff.mp E.eb).1
 unfold lg iE
 refine aW <| bA (by simp only[List.length_cons,List.length_nil,List.length_set];omega) <| Ep (k:=k) rfl E.p (by omega) (by omega) fun w S2 h1 h2 v2=>⟨_,rfl,?_⟩
 simp only[List.set_cons_succ,List.set_cons_zero]
 have ea2:S2[a]? =some (.lst (l.map MT.inD)):=by rw[v2.oth a (by omega)];exact E.ea
 have eb2:S2[b]? =some (.lst (ks.map .int)):=by rw[v2.oth b (by omega)];exact E.eb
 refine aW <| jQ (k:=a) rfl ⟨_,ea2⟩ <| dn (d:=MT.inD (ss[7 - i]'(by omega),w)) ?_ ⟨_,_,rfl,ea2,by rw[List.length_map];omega,_,rfl,?_⟩
 ·refine i5 (aN (aJ (a:= .lst (ss.map .str)) (b:=nI (7 - i)) rfl ?_ (jA (nV (by rw[List.getElem?_map,List.getElem?_eq_getElem (by omega)];rfl)))) (aN rfl rfl)) (by simp;omega)
  refine aJ (a:= .int 7) (b:=nI i) rfl rfl ?_
  show R.ok (D.int (7 - (i:Int)))=R.ok (D.int ((7 - i:Nat):Int))
  rw[Int.ofNat_sub (by omega)];rfl
 have eb3:(S2.set a (.lst (l.map MT.inD++[MT.inD (ss[7 - i]'(by omega),w)])))[b]? =some (.lst (ks.map .int)):=by rw[List.getElem?_set_ne (by omega)];exact eb2
 have ea3:(S2.set a (.lst (l.map MT.inD++[MT.inD (ss[7 - i]'(by omega),w)])))[a]? =some (.lst (l.map MT.inD++[MT.inD (ss[7 - i]'(by omega),w)])):=jq ea2
 have p3:nB k (S2.set a (.lst (l.map MT.inD++[MT.inD (ss[7 - i]'(by omega),w)]))):=by
  obtain⟨f,x,c,e⟩:=v2.p
  exact⟨f.set _ (lX _),x,c,by rw[List.getElem?_set_ne (by omega)];exact e⟩
 have hl3:(S2.set a (.lst (l.map MT.inD++[MT.inD (ss[7 - i]'(by omega),w)]))).length=S1.length:=by rw[List.length_set,v2.len]
 have ho3:∀j,j < S.length→j≠k→(S2.set a (.lst (l.map MT.inD++[MT.inD (ss[7 - i]'(by omega),w)])))[j]? =S[j]?:=fun j hj hk=>by rw[List.getElem?_set_ne (by omega),v2.oth j hk];exact E.oth j hj hk
 generalize S2.set a (.lst (l.map MT.inD++[MT.inD (ss[7 - i]'(by omega),w)]))=S3 at eb3 ea3 p3 hl3 ho3
 refine bA (by simp only[List.length_cons,List.length_nil,List.length_set];omega) <| Ew <| w_var (v:= .loc b) rfl <| dn (d:= .lst ((List.replicate w (i:Int)).map .int)) ?_ ⟨ks.map .int,(List.replicate w (i:Int)).map .int,by unfold wJ cK;simp only[eb3],rfl,by rw[List.length_map,List.length_map,List.length_replicate];omega,_,rfl,S3.length,_,rfl,ss[7 - i]'(by omega),w,h1,by omega,?_⟩
 ·refine et ?_
  rw[FN (n:=w) (ds:=[nI i]) (m4 rfl (by simp;omega)) rfl (by omega) (by simp;omega)]
  unfold nI
  rw[zM]
 ·have hE:=E.len
  refine⟨p3.push _,by rw[List.length_append];omega,fun j hj hk=>by rw[List.getElem?_append_left (by omega)];exact ho3 j hj hk,?_,?_,by omega⟩
  ·rw[List.getElem?_append_left (by omega),List.map_append];exact ea3
  ·rw[List.map_append];exact bH _ _
structure NS (k a b c:Nat) (l:List (Str × Nat)) (ks:List Int) (gs:List Gt) (S S1:aS):Prop where
 p:nB k S1
 len:S.length+3≤S1.length
 oth:∀j,j < S.length→j≠k→S1[j]? =S[j]?
 ea:S1[a]? =some (.lst (l.map MT.inD))
 eb:S1[b]? =some (.lst (ks.map .int))
 ec:S1[c]? =some (.lst (gs.map iK))
noncomputable def nE(mi ms:Int)(k a b c n:Nat)(cells:D)(ss:List Str)(a7 a8 a11 a12 a13:Option V3):DE:=[some (.loc k),some (.d cells),some (.d (.int mi)),some (.d (.int ms)),some (.d (.lst (ss.map .str))),some (.loc a),some (.loc b),a7,a8,some (.d (nI n)),some (.loc c),a11,a12,a13]
theorem EH(g:Gt):jF (iK g)=true:=by
 unfold iK jF jj
 rw[show jF (.str _)=true from by unfold jF;rfl]
 unfold jj
 rw[mV]
 unfold jj
 rw[show jF (.bl _)=true from by unfold jF;rfl]
 unfold jj
 rfl
theorem ne_nil(gs:List Gt)(hg:∀g∈gs,lh 100000 g):EG (.lst (gs.map iK)) (.lst [])= .ok gs.isEmpty:=by
 have f:jm 4 (.lst (gs.map iK)):=jm.lst fun d hd=>by
  obtain⟨g,h,rfl⟩:=List.mem_map.mp hd
  have hk:=(hg g h).1
  refine jm.tup fun x hx=>?_
  simp only[List.mem_cons,List.not_mem_nil,or_false] at hx
  rcases hx with rfl | rfl | rfl
  ·refine(jm.str ?_).mono (by omega)
   match g.1,hk with
   | 0,_=>decide+kernel
   | 1,_=>decide+kernel
   | 2,_=>decide+kernel
   | 3,_=>decide+kernel
   | 4,_=>decide+kernel
  ·refine(jm.tup (n:=0) fun y hy=>?_).mono (by omega)
   obtain⟨z,_,rfl⟩:=List.mem_map.mp hy
   exact jm.int _
  ·exact(jm.bl _).mono (by omega)
 rw[BV,f.pl,f.sh (by omega),(jm.lst (n:=0) (ds:=[]) (by simp)).pl,(jm.lst (n:=0) (ds:=[]) (by simp)).sh (by omega)]
 cases gs with
 | nil=>rfl
 | cons g gs=>rfl
theorem NS.own{k a b c m:Nat}{l:List (Str × Nat)}{ks:List Int}{gs:List Gt}{S S1 S2:aS}(E:NS k a b c l ks gs S S1)(hm:S.length≤m)(hk:k < S.length)(ha:a≠m)(hb:b≠m)(hc:c≠m)(v:Ev m S1 S2):NS k a b c l ks gs S S2:=by
 obtain⟨f,x,y,e⟩:=E.p
 exact⟨⟨v.p.1,x,y,by rw[v.oth k (by omega)];exact e⟩,by rw[v.len];exact E.len,fun j hj hjk=>by rw[v.oth j (by omega)];exact E.oth j hj hjk,by rw[v.oth a ha];exact E.ea,by rw[v.oth b hb];exact E.eb,by rw[v.oth c hc];exact E.ec⟩
theorem NS.add{k a b c:Nat}{l:List (Str × Nat)}{ks:List Int}{gs:List Gt}{g:Gt}{x:Int}{S S1:aS}(E:NS k a b c l ks gs S S1)(hk:k < S.length)(hbS:S.length≤b)(hcS:S.length≤c)(hab:a≠b)(hac:a≠c)(hbc:b≠c) :
 NS k a b c l (ks++[x]) (gs++[g]) S ((S1.set c (.lst (gs.map iK++[iK g]))).set b (.lst (ks.map .int++[.int x]))):=by
 obtain⟨f,u,y,e⟩:=E.p
 refine⟨⟨(f.set _ (lX _)).set _ (lX _),u,y,by rw[List.getElem?_set_ne (by omega),List.getElem?_set_ne (by omega)];exact e⟩,by rw[List.length_set,List.length_set];exact E.len,fun j hj hjk=>by rw[List.getElem?_set_ne (by omega),List.getElem?_set_ne (by omega)];exact E.oth j hj hjk,
  by rw[List.getElem?_set_ne (Ne.symm hab),List.getElem?_set_ne (Ne.symm hac)];exact E.ea,?_,?_⟩
 ·rw[List.map_append];exact jq (x:= .lst (ks.map .int)) (by rw[List.getElem?_set_ne (Ne.symm hbc)];exact E.eb)
 ·rw[List.getElem?_set_ne hbc,List.map_append];exact jq E.ec
theorem Gz{S:aS}{δ:DE}{i j c p:Nat}{gs:List Gt}{g:Gt}(hi:δ[i]? =some (some (.loc c)))(hj:δ[j]? =some (some (.d (nI p))))(e:S[c]? =some (.lst (gs.map iK)))(hg:gs[p]? =some g):e2 ck (ag i) (ag j) (bV S δ)= .ok (iK g):=by
 refine aJ (a:= .lst (gs.map iK)) (b:=nI p) ?_ ?_ (Ip hg)
 ·unfold ag bV
  rw[List.getElem?_map,hi]
  show(match some (match res S (.loc c) with | some d=>Sl.val d | none=> .un) with | some (.val d)=>R.ok d | _=> .no)=_
  rw[je e]
 ·unfold ag bV
  rw[List.getElem?_map,hj]
  rfl
theorem B_{mi ms:Int}{S S1:aS}{k a b c n:Nat}{cells:D}{ss:List Str}{cell:Int}{a7 a8 a12 a13:Option V3}{l:List (Str × Nat)}{ks:List Int}{gs:List Gt}(hk:k < S.length)(haS:S.length≤a)(hbS:S.length≤b)(hcS:S.length≤c)(hab:a≠b)(hac:a≠c)(hbc:b≠c)
 (hn:0 < n) (hkn:ks.length=n+gs.length) (hks:ks.length < 10000) (hgs:∀(i:Nat) (g:Gt),gs[i]? =some g→lh (n+i) g) (E:NS k a b c l ks gs S S1) :
 W3 (k5 (nE mi ms k a b c n cells ss a7 a8 (some (.d (.int cell))) a12 a13) S1) fun o S2=>∃δ2,o= .nx δ2∧(∃b11 b12 b13,δ2=nE mi ms k a b c n cells ss a7 a8 b11 b12 b13)∧∃(g:Gt) (x:Int),lh ks.length g∧(x=(ks.length:Int)+10∨∃pl g0,gs[pl]? =some g0∧x=ks.getD (n+pl) 0∧g.1=g0.1∧g.2.1.map (ks.getD · 0)=g0.2.1.map (ks.getD · 0))∧NS k a b c l (ks++[x]) (gs++[g]) S S2:=by
 have hz:sizeLine=16777216:=sizeLine_eq
 have hgl:gs.length < 10000:=by omega
 have la:a < S1.length:=(List.getElem?_eq_some_iff.mp E.ea).1
 have lb:b < S1.length:=(List.getElem?_eq_some_iff.mp E.eb).1
 have lc:c < S1.length:=(List.getElem?_eq_some_iff.mp E.ec).1
 have hE:=E.len
 unfold k5 nE
 refine aW <| bA (by simp only[List.length_cons,List.length_nil,List.length_set];omega) <| dX <| aL <| dn (d:= .int cell) rfl <| cU <| xt cell E.p.1 fun S2 p2 l2 o2=>⟨_,rfl,?_⟩
 simp only[List.set_cons_succ,List.set_cons_zero]
 have E2:NS k a b c l ks gs S S2:=by
  obtain⟨f,u,y,e⟩:=E.p
  exact⟨⟨p2.1,u,y,by rw[o2 k (by omega)];exact e⟩,by omega,fun j hj hjk=>by rw[o2 j (by omega)];exact E.oth j hj hjk,by rw[o2 a la];exact E.ea,by rw[o2 b lb];exact E.eb,by rw[o2 c lc];exact E.ec⟩
 have hmS:S.length≤S1.length:=by omega
 have ha:a≠S1.length:=by omega
 have hb:b≠S1.length:=by omega
 have hc:c≠S1.length:=by omega
 generalize S1.length=m at p2 l2 o2 hmS ha hb hc
 have gate:∀(S3:aS),NS k a b c l ks gs S S3→nB m S3→∀(a13':Option V3),W3 (bz (jJ 10 (bU fW (ay (bL 12) (ay (bL 6) (ay (xP (ag 3)) bW))))) (jJ 6 (xT (e2 dH (aA cO (ao (ag 6) aD)) (eC (.int 10)))))
  [some (.loc k),some (.d cells),some (.d (.int mi)),some (.d (.int ms)),some (.d (.lst (ss.map .str))),some (.loc a),some (.loc b),a7,a8,some (.d (nI n)),some (.loc c),some (.d (.int cell)),some (.loc m),a13'] S3)
  fun o S4=>∃δ2,o= .nx δ2∧(∃b11 b12 b13,δ2=nE mi ms k a b c n cells ss a7 a8 b11 b12 b13)∧∃(g:Gt) (x:Int),lh ks.length g∧(x=(ks.length:Int)+10∨∃pl g0,gs[pl]? =some g0∧x=ks.getD (n+pl) 0∧g.1=g0.1∧g.2.1.map (ks.getD · 0)=g0.2.1.map (ks.getD · 0))∧NS k a b c l (ks++[x]) (gs++[g]) S S4:=fun S3 E3 p3 a13'=>by
  refine aW <| jQ (k:=c) rfl ⟨_,E3.ec⟩ <| dX <| aL <| w_var (v:= .loc m) rfl <| aL <| w_var (v:= .loc b) rfl <| aL <| dn (d:= .int ms) rfl <| cU <| y7 (k:=m) p3 hb E3.eb (by omega) hks fun g S4 hg v4=>?_
  have E4:=E3.own hmS hk ha hb hc v4
  refine⟨iK g,_,rfl,E4.ec,by rw[List.length_map];omega,_,rfl,?_⟩
  have eb5:(S4.set c (.lst (gs.map iK++[iK g])))[b]? =some (.lst (ks.map .int)):=by rw[List.getElem?_set_ne (Ne.symm hbc)];exact E4.eb
  refine jQ (k:=b) rfl ⟨_,eb5⟩ (t7 (d:= .int ((ks.length:Int)+10)) (aJ (a:= .int ks.length) (b:= .int 10) (ju eb5 rfl) rfl rfl) rfl ⟨_,_,rfl,eb5,by rw[List.length_map];omega,_,rfl,⟨_,_,_,rfl⟩,g,(ks.length:Int)+10,hg, .inl rfl,E4.add hk hbS hcS hab hac hbc⟩)
 have hT:∀{S3:aS},NS k a b c l ks gs S S3→bT (b2 tI (ag 10) (eNew (dk aD))) [some (.loc k),some (.d cells),some (.d (.int mi)),some (.d (.int ms)),some (.d (.lst (ss.map .str))),some (.loc a),some (.loc b),a7,a8,some (.d (nI n)),some (.loc c),some (.d (.int cell)),some (.loc m),a13] S3= .ok (!gs.isEmpty) S3:=fun {S3} E3=>by
  unfold bT
  have:b2 tI (ag 10) (eNew (dk aD)) (bV S3 [some (.loc k),some (.d cells),some (.d (.int mi)),some (.d (.int ms)),some (.d (.lst (ss.map .str))),some (.loc a),some (.loc b),a7,a8,some (.d (nI n)),some (.loc c),some (.d (.int cell)),some (.loc m),a13])= .ok (!gs.isEmpty):=by
   refine ij (a:= .lst (gs.map iK)) (b:= .lst []) ?_ rfl ?_
   ·unfold ag bV
    show(match some (match res S3 (.loc c) with | some d=>Sl.val d | none=> .un) with | some (.val d)=>R.ok d | _=> .no)=_
    rw[je E3.ec]
   ·unfold tI
    rw[ne_nil gs fun g hg=>?_]
    ·rfl
    ·obtain⟨i,hi⟩:=List.getElem?_of_mem hg
     obtain⟨g1,g2,g3⟩:=hgs i g hi
     have hil:=(List.getElem?_eq_some_iff.mp hi).1
     exact⟨g1,g2,fun w hw=>by have:=g3 w hw;omega⟩
  rw[this];rfl
 refine sT ?_
 unfold FQ
 refine W3.bind (W3.eq (hT E2) ?_)
 cases hgs0:gs with
 | nil=>
   subst hgs0
   exact W3.ok (gate S2 E2 p2 a13)
 | cons g0 gs0=>
   rw[←hgs0]
   have hne:gs.isEmpty=false:=by rw[hgs0];rfl
   have hpos:0 < gs.length:=by rw[hgs0];simp
   rw[hne]
   show W3 (HL _ _ _ _ S2) _
   refine Hq <| draw (k:=m) rfl p2 rfl (by omega) (by omega) fun r S3 h1 h2 v3=>dn (d:= .int 0) rfl ⟨_,_,decide (r=0),rfl,rfl,rfl,?_⟩
   have E3:=E2.own hmS hk ha hb hc v3
   by_cases hr:r=0
   ·rw[decide_eq_true hr,if_pos rfl]
    have lenG:aA cO (ao (ag 10) aD) (bV S3 [some (.loc k),some (.d cells),some (.d (.int mi)),some (.d (.int ms)),some (.d (.lst (ss.map .str))),some (.loc a),some (.loc b),a7,a8,some (.d (nI n)),some (.loc c),some (.d (.int cell)),some (.loc m),a13])= .ok (.int gs.length):=by
     refine aP (ds:=[.lst (gs.map iK)]) (aN ?_ rfl) (by rw[kF,List.length_map])
     unfold ag bV
     show(match some (match res S3 (.loc c) with | some d=>Sl.val d | none=> .un) with | some (.val d)=>R.ok d | _=> .no)=_
     rw[je E3.ec]
    refine aW <| bA (by simp only[List.length_cons,List.length_nil,List.length_set];omega) <| xS (k:=m) rfl v3.p lenG (by omega) (by omega) fun r4 S4 h3 h4 v4=>⟨_,rfl,?_⟩
    simp only[List.set_cons_succ,List.set_cons_zero]
    have E4:=E3.own hmS hk ha hb hc v4
    obtain⟨pl,hpl,epl⟩:∃pl:Nat,pl < gs.length∧D.int r4=nI pl:=⟨r4.toNat,by omega,by unfold nI;rw [Int.toNat_of_nonneg h3]⟩
    rw[epl]
    have hg4:gs[pl]? =some gs[pl]:=List.getElem?_eq_getElem hpl
    obtain⟨q1,q2,q3⟩:=hgs pl _ hg4
    have hgo:lh ks.length gs[pl]:=⟨q1,q2,fun w hw=>by have:=q3 w hw;omega⟩
    refine aW <| jQ (k:=c) rfl ⟨_,E4.ec⟩ <| dX <| aL <| w_var (v:= .loc m) rfl <| aL <| t7 (d:=iK gs[pl]) (Gz rfl rfl E4.ec hg4) (EH _) <| aL <| w_var (v:= .loc b) rfl <| cU <| xh (k:=m) v4.p hb E4.eb hgo hks fun g S5 hg hg1 hgk v5=>?_
    have E5:=E4.own hmS hk ha hb hc v5
    refine⟨iK g,_,rfl,E5.ec,by rw[List.length_map];omega,_,rfl,?_⟩
    have eb6:(S5.set c (.lst (gs.map iK++[iK g])))[b]? =some (.lst (ks.map .int)):=by rw[List.getElem?_set_ne (Ne.symm hbc)];exact E5.eb
    have hix:n+pl < ks.length:=by omega
    refine jQ (k:=b) rfl ⟨_,eb6⟩ (t7 (d:= .int ks[n+pl]) ?_ rfl ⟨_,_,rfl,eb6,by rw[List.length_map];omega,_,rfl,⟨_,_,_,rfl⟩,g,ks[n+pl],hg, .inr ⟨pl,_,hg4,by rw[List.getD_eq_getElem?_getD,List.getElem?_eq_getElem hix];rfl,hg1,hgk⟩,E5.add hk hbS hcS hab hac hbc⟩)
    refine aJ (a:= .lst (ks.map .int)) (b:=nI (n+pl)) ?_ (aJ (a:=nI n) (b:=nI pl) rfl rfl ?_) (zY hix)
    ·unfold ag bV
     show(match some (match res (S5.set c (.lst (gs.map iK++[iK g]))) (.loc b) with | some d=>Sl.val d | none=> .un) with | some (.val d)=>R.ok d | _=> .no)=_
     rw[je eb6]
    ·show R.ok (D.int ((n:Int)+(pl:Int)))=R.ok (D.int ((n+pl:Nat):Int))
     rw[Int.natCast_add]
   ·rw[decide_eq_false hr,if_neg (by decide)]
    exact gate S3 E3 v3.p a13
end K11
end
section
set_option maxRecDepth 100000
set_option maxHeartbeats 4000000
namespace K11
open PySem PySem.Spec PyProof.Rows L2 L3 MT
noncomputable def pv(l:List (Str × Nat))(gs:List Gt)(ms:List M)(p n:Nat):Bool:=jR (j1 gs [] (cw l ms [] l.length) gs.length) n p
theorem pO{gs:List Gt}{t:List Int}{w0:List M}{n:Nat}:∀{j i:Nat},i≤j→j≤gs.length→n < w0.length+i→jR (j1 gs t w0 j) n=jR (j1 gs t w0 i) n
 | 0,i,h,_,_=>by rw[show i=0 by omega]
 | j+1,i,h,hj,hn=>by
   by_cases q:i=j+1
   ·rw[q]
   ·rw[←pO (j:=j) (i:=i) (by omega) (by omega) hn]
    conv=>lhs;unfold j1
    rw[List.getElem?_eq_getElem (by omega:j < gs.length)]
    show jR (j1 gs t w0 j++[_]) n=_
    rw[pM (by rw[lH j (by omega)];omega)]
theorem xE{gs hs:List Gt}{t:List Int}{w0:List M}:∀i,i≤gs.length→j1 (gs++hs) t w0 i=j1 gs t w0 i
 | 0,_=>rfl
 | i+1,hi=>by
   unfold j1
   rw[List.getElem?_append_left (by omega),List.getElem?_eq_getElem (by omega:i < gs.length),xE i (by omega)]
theorem uH{l:List (Str × Nat)}{x:Str × Nat}{ms:List M}{bad:List Int}:∀i,i≤l.length→cw (l++[x]) ms bad i=cw l ms bad i
 | 0,_=>rfl
 | i+1,hi=>by
   unfold cw
   rw[List.getElem?_append_left (by omega),uH i (by omega)]
theorem rE{l:List (Str × Nat)}{ms:List M}{bad:List Int}(hb:l.length≤ms.length):∀i,i≤l.length→(cw l ms bad i).length=fX (l.take i)
 | 0,_=>rfl
 | i+1,hi=>by
   have h1:l[i]? =some l[i]:=List.getElem?_eq_getElem (by omega)
   have h2:ms[i]? =some ms[i]:=List.getElem?_eq_getElem (by omega)
   unfold cw
   rw[h1,h2]
   show(fu bad ms[i] l[i].2 (cw l ms bad i)).length=_
   rw[fR,rE hb i (by omega),List.take_add_one,h1]
   unfold fX
   simp only[Option.toList_some,List.map_append,List.sum_append,List.map_cons,List.map_nil,List.sum_cons,List.sum_nil]
   omega
theorem rX(b:M):∀m ws n,n < ws.length→jR (fu [] b m ws) n=jR ws n
 | 0,ws,n,h=>rfl
 | m+1,ws,n,h=>by unfold fu;rw [pM (by rw[fR];omega)];exact rX b m ws n h
theorem rY(b:M):∀m ws n,ws.length≤n→n < ws.length+m→jR (fu [] b m ws) n=b
 | 0,ws,n,h,h2=>by omega
 | m+1,ws,n,h,h2=>by
   have hl:=fR [] b m ws
   unfold fu
   by_cases q:n < ws.length+m
   ·rw[pM (by omega)];exact rY b m ws n h q
   ·rw[show n=(fu [] b m ws).length by omega,qe]
    funext p
    simp
structure D6 (l:List (Str × Nat)) (ks:List Int):Prop where
 len:ks.length=fX l
 v:∀n,n < ks.length→∃j:Nat,j < l.length∧ks.getD n 0=(j:Int)∧∀ms:List M,l.length≤ms.length→jR (cw l ms [] l.length) n=ms.getD j fun _=>false
theorem D6.nil:D6 [] []:=⟨rfl,fun n h=>by simp at h⟩
theorem jP{ks:List Int}{xs:List Int}{n:Nat}(h:n < ks.length):(ks++xs).getD n 0=ks.getD n 0:=by rw[List.getD_eq_getElem?_getD,List.getElem?_append_left h,List.getD_eq_getElem?_getD]
theorem D6.add{l:List (Str × Nat)}{ks:List Int}(h:D6 l ks)(s:Str)(w:Nat):D6 (l++[(s,w)]) (ks++List.replicate w (l.length:Int)):=by
 have hw:fX (l++[(s,w)])=fX l+w:=by simp [fX]
 refine⟨by rw[List.length_append,List.length_replicate,h.len,hw],fun n hn=>?_⟩
 rw[List.length_append,List.length_replicate] at hn
 have step:∀ms:List M,(l++[(s,w)]).length≤ms.length→cw (l++[(s,w)]) ms [] (l++[(s,w)]).length=fu [] (ms.getD l.length fun _=>false) w (cw l ms [] l.length)∧(cw l ms [] l.length).length=ks.length:=fun ms hms=>by
  rw[List.length_append] at hms ⊢
  have hms:l.length < ms.length:=hms
  refine⟨?_,by rw[rE (by omega) _ (Nat.le_refl _),List.take_length,h.len]⟩
  show cw (l++[(s,w)]) ms [] (l.length+1)=_
  conv=>lhs;unfold cw
  rw[List.getElem?_append_right (Nat.le_refl _),Nat.sub_self,List.getElem?_eq_getElem hms,uH _ (Nat.le_refl _),List.getD_eq_getElem?_getD,List.getElem?_eq_getElem hms]
  rfl
 by_cases q:n < ks.length
 ·obtain⟨j,hj,hk,hv⟩:=h.v n q
  refine⟨j,by rw[List.length_append];omega,by rw[jP q];exact hk,fun ms hms=>?_⟩
  obtain⟨e1,e2⟩:=step ms hms
  rw[e1,rX _ _ _ _ (by omega)]
  exact hv ms (by rw[List.length_append] at hms;omega)
 ·refine⟨l.length,by rw[List.length_append];simp,?_,fun ms hms=>?_⟩
  ·rw[List.getD_eq_getElem?_getD,List.getElem?_append_right (by omega),List.getElem?_replicate,if_pos (by omega)];rfl
  ·obtain⟨e1,e2⟩:=step ms hms
   rw[e1,rY _ _ _ _ (by omega) (by omega)]
structure KI (l:List (Str × Nat)) (gs:List Gt) (ks:List Int):Prop where
 len:ks.length=fX l+gs.length
 b:∀n,n < ks.length→ks.getD n 0 < (ks.length:Int)+10
 v:∀ms:List M,ms.length=l.length→∀p n n',n < ks.length→n' < ks.length→ks.getD n 0=ks.getD n' 0→pv l gs ms p n=pv l gs ms p n'
theorem D6.ki{l:List (Str × Nat)}{ks:List Int}(h:D6 l ks)(hl:l.length≤9):KI l [] ks:=by
 refine⟨by rw[h.len];rfl,fun n hn=>?_,fun ms hms p n n' hn hn' e=>?_⟩
 ·obtain⟨j,hj,hk,_⟩:=h.v n hn
  rw[hk];omega
 ·obtain⟨j,hj,hk,hv⟩:=h.v n hn
  obtain⟨j',hj',hk',hv'⟩:=h.v n' hn'
  have:j=j':=by rw[hk,hk'] at e;omega
  subst this
  show jR (cw l ms [] l.length) n p=jR (cw l ms [] l.length) n' p
  rw[hv ms (by omega),hv' ms (by omega)]
section
variable {l:List (Str × Nat)} {gs:List Gt} {g:Gt} {ms:List M} {p n:Nat} {ks:List Int}
theorem Bf(hms:ms.length=l.length):(cw l ms [] l.length).length=fX l:=by rw[jN hms _ (Nat.le_refl _),List.take_length]
theorem zL(hms:ms.length=l.length)(hn:n < fX l+gs.length):pv l (gs++[g]) ms p n=pv l gs ms p n:=by
 have h0:=Bf hms
 unfold pv
 rw[pO (gs:=gs++[g]) (i:=gs.length) (by rw[List.length_append];omega) (Nat.le_refl _) (by omega),xE _ (Nat.le_refl _)]
theorem El{i:Nat}(hms:ms.length=l.length)(h:gs[i]? =some g)(hg:lh (fX l+i) g):pv l gs ms p (fX l+i)=gv g.1 (g.2.1.map (pv l gs ms p)):=by
 have h0:=Bf hms
 have hi:=(List.getElem?_eq_some_iff.mp h).1
 unfold pv
 rw[pO (i:=i+1) (by omega) (Nat.le_refl _) (by omega)]
 conv=>lhs;unfold j1
 rw[h]
 show jR (j1 gs [] (cw l ms [] l.length) i++[fun p=>gF g (j1 gs [] (cw l ms [] l.length) i) p !=false]) (fX l+i) p=_
 have hl:=lH (gs:=gs) (turned:=[]) (w0:=cw l ms [] l.length) i (by omega)
 rw[show fX l+i=(j1 gs [] (cw l ms [] l.length) i).length by omega,qe]
 show(gv g.1 (g.2.1.map fun n=>jR (j1 gs [] (cw l ms [] l.length) i) n p) !=false)=_
 have:g.2.1.map (fun n=>jR (j1 gs [] (cw l ms [] l.length) i) n p)=g.2.1.map fun n=>jR (j1 gs [] (cw l ms [] l.length) gs.length) n p:=List.map_congr_left fun z hz=>by
  rw[pO (j:=gs.length) (i:=i) (by omega) (Nat.le_refl _) (by have:=hg.2.2 z hz;omega)]
 rw[this]
 simp
theorem B0{f:Nat→Bool}{ks:List Int}{N:Nat}(hf:∀a b,a < N→b < N→ks.getD a 0=ks.getD b 0→f a=f b):∀{u v:List Nat},(∀x∈u,x < N)→(∀x∈v,x < N)→u.map (ks.getD · 0)=v.map (ks.getD · 0)→u.map f=v.map f
 | [],[],_,_,_=>rfl
 | [],_ ::_,_,_,h=>by simp at h
 | _ ::_,[],_,_,h=>by simp at h
 | a ::u,b ::v,h1,h2,h=>by
   rw[List.map_cons,List.map_cons] at h
   obtain⟨e1,e2⟩:=List.cons.inj h
   rw[List.map_cons,List.map_cons,hf a b (h1 a List.mem_cons_self) (h2 b List.mem_cons_self) e1,B0 hf (fun x hx=>h1 x (List.mem_cons_of_mem _ hx)) (fun x hx=>h2 x (List.mem_cons_of_mem _ hx)) e2]
theorem KI.add{x:Int}(h:KI l gs ks)(hgs:∀(i:Nat) (g:Gt),gs[i]? =some g→lh (fX l+i) g)(hg:lh ks.length g)
 (hx:x=(ks.length:Int)+10∨∃pl g0,gs[pl]? =some g0∧x=ks.getD (fX l+pl) 0∧g.1=g0.1∧g.2.1.map (ks.getD · 0)=g0.2.1.map (ks.getD · 0)):KI l (gs++[g]) (ks++[x]):=by
 have hl:=h.len
 have hlast:(ks++[x]).getD ks.length 0=x:=by rw[List.getD_eq_getElem?_getD,List.getElem?_append_right (Nat.le_refl _),Nat.sub_self];rfl
 have hll:(ks++[x]).length=ks.length+1:=by simp
 refine⟨by rw[hll,hl,List.length_append];rfl,fun n hn=>?_,?_⟩
 ·rw[hll] at hn ⊢
  by_cases q:n < ks.length
  ·rw[jP q];have:=h.b n q;omega
  ·rw[show n=ks.length by omega,hlast]
   rcases hx with rfl | ⟨pl,g0,h0,rfl,_⟩
   ·omega
   ·have:=h.b (fX l+pl) (by have:=(List.getElem?_eq_some_iff.mp h0).1;omega);omega
 ·intro ms hms p
  have new:∀pl g0,gs[pl]? =some g0→x=ks.getD (fX l+pl) 0→g.1=g0.1→g.2.1.map (ks.getD · 0)=g0.2.1.map (ks.getD · 0)→pv l (gs++[g]) ms p ks.length=pv l gs ms p (fX l+pl):=fun pl g0 h0 _ e1 e2=>by
   have hpl:=(List.getElem?_eq_some_iff.mp h0).1
   have hgat:(gs++[g])[gs.length]? =some g:=by rw[List.getElem?_append_right (Nat.le_refl _),Nat.sub_self];rfl
   rw[hl,El hms hgat (by rw[←hl];exact hg),El hms h0 (hgs pl g0 h0),e1]
   have e3:g.2.1.map (pv l (gs++[g]) ms p)=g.2.1.map (pv l gs ms p):=List.map_congr_left fun z hz=>zL hms (by have:=hg.2.2 z hz;omega)
   rw[e3]
   congr 1
   exact B0 (N:=ks.length) (fun a b ha hb e=>h.v ms hms p a b ha hb e) hg.2.2 (fun z hz=>by have:=(hgs pl g0 h0).2.2 z hz;omega) e2
  have old:∀n,n < ks.length→pv l (gs++[g]) ms p n=pv l gs ms p n:=fun n hn=>zL hms (by omega)
  have mix:∀n,n < ks.length→ks.getD n 0=x→pv l (gs++[g]) ms p n=pv l (gs++[g]) ms p ks.length:=fun n hn e=>by
   rcases hx with rfl | ⟨pl,g0,h0,hx,e1,e2⟩
   ·have:=h.b n hn;omega
   ·rw[new pl g0 h0 hx e1 e2,old n hn]
    exact h.v ms hms p n _ hn (by have:=(List.getElem?_eq_some_iff.mp h0).1;omega) (e.trans hx)
  intro n n' hn hn' e
  rw[hll] at hn hn'
  by_cases q:n < ks.length
  ·rw[jP q] at e
   by_cases q':n' < ks.length
   ·rw[jP q'] at e
    rw[old n q,old n' q']
    exact h.v ms hms p n n' q q' e
   ·have en':n'=ks.length:=by omega
    subst en'
    rw[hlast] at e
    exact mix n q e
  ·have en:n=ks.length:=by omega
   subst en
   by_cases q':n' < ks.length
   ·rw[jP q',hlast] at e
    exact(mix n' q' e.symm).symm
   ·rw[show n'=ks.length by omega]
end
end K11
end
section
set_option maxRecDepth 100000
set_option maxHeartbeats 4000000
namespace K11
open PySem PySem.Spec PyProof.Rows L2 L3 MT
theorem u9{mi ms:Int}{S:aS}{k:Nat}{cs:List Int}(p:nB k S)(hcs:cs.length < 1000)(hmi:1≤mi∧mi≤6){Q:V3→aS→Prop}
 (h:∀(l:List (Str × Nat)) (gs:List Gt) (os:List (Str × List Nat)) S1,(∀x∈l,1≤x.2∧x.2≤3)→1≤l.length→l.length≤6→gs.length=cs.length→(∀(i:Nat) (g:Gt),gs[i]? =some g→lh (fX l+i) g)→1≤os.length→os.length < 100→(∀x∈os,(1≤x.2.length∧x.2.length≤3)∧(∀w∈x.2,w < fX l+gs.length)∧∀a b,x.2=[a,b]→∀ms,ms.length=l.length→∀p,pv l gs ms p a=pv l gs ms p b)→Ev k S S1→Q (.d (bB l gs os)) S1) :
 W3 (iQ [.loc k, .d (.lst (cs.map .int)), .d (.int mi), .d (.int ms)] S) Q:=by
 have hz:sizeLine=16777216:=sizeLine_eq
 have hk:=p.lt
 unfold iQ
 refine qG (uf rfl ?_)
 simp only[bX,lE,List.map_cons,List.map_nil,List.length_cons,List.length_nil,List.replicate,List.cons_append,List.nil_append,Nat.reduceAdd,Nat.reduceSub]
 unfold nM
 refine aW <| bA (by simp only[List.length_cons,List.length_nil,List.length_set];omega) <| dX <| aL <| w_var (v:= .loc k) rfl <| aL <| dn (d:= .int 8) rfl <| cU <| zR (m:=8) p (by omega) fun ss S1 hss v1=>⟨_,rfl,?_⟩
 simp only[List.set_cons_succ,List.set_cons_zero]
 have l1:=v1.len
 refine aW <| bA (by simp only[List.length_cons,List.length_nil,List.length_set];omega) <| jS (ds:=[]) rfl ⟨_,rfl,?_⟩
 simp only[List.set_cons_succ,List.set_cons_zero]
 refine aW <| bA (by simp only[List.length_cons,List.length_nil,List.length_set];omega) <| jS (ds:=[]) rfl ⟨_,rfl,?_⟩
 simp only[List.set_cons_succ,List.set_cons_zero]
 rw[l1,show(S1++[SO.lst []]).length=S.length+1 by simp [l1]]
 have E0:IS k S.length (S.length+1) [] [] S (S1++[.lst []]++[.lst []]):=by
  refine⟨(v1.p.push []).push [],by simp [l1],fun j hj hk=>by rw[List.getElem?_append_left (by simp;omega),List.getElem?_append_left (by omega)];exact v1.oth j hk,?_,?_,by omega⟩
  ·rw[List.getElem?_append_left (by simp;omega),←l1];exact bH _ _
  ·have:=bH (S1++[SO.lst []]) (SO.lst [])
   rw[show(S1++[SO.lst []]).length=S.length+1 by simp [l1]] at this
   exact this
 refine aW <| ik <| nQ <| Ak <| dn (d:= .int 1) rfl <| draw (k:=k) rfl E0.p rfl (by omega) (by omega) fun r S2 h1 h2 v2=>⟨_,_, .int ((1+r).toNat:Nat),rfl,rfl,by rw[Int.toNat_of_nonneg (by omega)];rfl,(1+r).toNat,rfl,by omega,?_⟩
 have E2:IS k S.length (S.length+1) [] [] S S2:=⟨v2.p,by rw[v2.len];exact E0.len,fun j hj hk=>(v2.oth j hk).trans (E0.oth j hj hk),by rw[v2.oth _ (by omega)];exact E0.ea,by rw[v2.oth _ (by omega)];exact E0.eb,by omega⟩
 refine(cH (fun i δ S3=>∃b a7 a8,δ=iE mi ms k S.length b (.lst (cs.map .int)) ss a7 a8∧∃(l:List (Str × Nat)) (ks:List Int),l.length=i∧(∀x∈l,1≤x.2∧x.2≤3)∧ks.length=fX l∧fX l≤3*i∧i≤fX l∧D6 l ks∧IS k S.length b l ks S S3)
  ⟨S.length+1,_,_,rfl,[],[],rfl,by simp,rfl,by simp [fX],by omega,D6.nil,E2⟩ ?_).mono fun o S3 ⟨δ3,e3,b,a7,a8,hδ,l,ks,hl,hlw,hks,hw3,hw1,hKn,E3⟩=>⟨δ3,e3,?_⟩
 ·rintro i v δ S3 hv ⟨b,a7,a8,rfl,l,ks,hl,hlw,hks,hw3,hw1,hKn,E3⟩
  rw[List.getElem?_map] at hv
  cases qq:(b_ 0 (1+r).toNat)[i]? with
  | none=>rw [qq] at hv;cases hv
  | some d0=>
    rw[qq] at hv
    obtain⟨hi,rfl⟩:=jC qq
    cases hv
    refine⟨iE mi ms k S.length b (.lst (cs.map .int)) ss (some (.d (nI i))) a8,rfl,?_⟩
    refine(CB hk rfl hss (by omega) (by omega) (by omega) E3).mono fun o S4 ⟨δ4,e4,b',a8',h4,s,w,hw1',hw3',E4⟩=>⟨δ4,e4,b',_,a8',h4,l++[(s,w)],ks++List.replicate w (i:Int),by simp [hl],?_,?_,?_,?_,by rw[←hl];exact hKn.add s w,E4⟩
    ·intro x hx
     rcases List.mem_append.mp hx with z | z
     ·exact hlw x z
     ·rw[List.mem_singleton] at z;subst z;exact⟨hw1',hw3'⟩
    ·rw[List.length_append,List.length_replicate,hks];simp [fX]
    ·have:fX (l++[(s,w)])=fX l+w:=by simp [fX]
     omega
    ·have:fX (l++[(s,w)])=fX l+w:=by simp [fX]
     omega
 have hrl:((b_ 0 (1+r).toNat).map V3.d).length=(1+r).toNat:=by simp [b_]
 rw[hrl] at hl hw3 hw1
 subst hδ
 unfold iE
 refine aW <| bA (by simp only[List.length_cons,List.length_nil,List.length_set];omega) <| t7 (d:=nI (fX l)) ?_ rfl ⟨_,rfl,?_⟩
 ·refine(ju E3.eb rfl).trans ?_
  rw[hks];rfl
 simp only[List.set_cons_succ,List.set_cons_zero]
 refine aW <| bA (by simp only[List.length_cons,List.length_nil,List.length_set];omega) <| jS (ds:=[]) rfl ⟨_,rfl,?_⟩
 simp only[List.set_cons_succ,List.set_cons_zero]
 have hE3:=E3.len
 have la:S.length < S3.length:=(List.getElem?_eq_some_iff.mp E3.ea).1
 have lb:b < S3.length:=(List.getElem?_eq_some_iff.mp E3.eb).1
 have hbS:=E3.hb
 have N0:NS k S.length b S3.length l ks ([]:List Gt) S (S3++[.lst []]):=⟨E3.p.push [],by simp;omega,fun j hj hk=>by rw[List.getElem?_append_left (by omega)];exact E3.oth j hj hk,by rw[List.getElem?_append_left la];exact E3.ea,by rw[List.getElem?_append_left lb];exact E3.eb,bH _ _⟩
 refine aW <| ik <| mf (ds:=cs.map .int) rfl ?_
 refine(cH (fun i δ S4=>(∃b11 b12 b13,δ=nE mi ms k S.length b S3.length (fX l) (.lst (cs.map .int)) ss a7 a8 b11 b12 b13)∧∃(ks:List Int) (gs:List Gt),gs.length=i∧ks.length=fX l+gs.length∧(∀(i:Nat) (g:Gt),gs[i]? =some g→lh (fX l+i) g)∧KI l gs ks∧NS k S.length b S3.length l ks gs S S4)
  ⟨⟨_,_,_,rfl⟩,ks,[],rfl,by simp [hks],by simp,hKn.ki (by omega),N0⟩ ?_).mono fun o S4 ⟨δ4,e4,⟨b11,b12,b13,hδ⟩,ks,gs,hgl,hkn,hgs,hKI,N4⟩=>⟨δ4,e4,?_⟩
 ·rintro i v δ S4 hv ⟨⟨b11,b12,b13,rfl⟩,ks,gs,hgl,hkn,hgs,hKI,N4⟩
  have hi:i < 1000:=by
   have:=(List.getElem?_eq_some_iff.mp hv).1
   rw[List.length_map,List.length_map] at this
   omega
  obtain⟨d0,hd0,rfl⟩:=List.mem_map.mp (List.mem_of_getElem? hv)
  obtain⟨c,_,rfl⟩:=List.mem_map.mp hd0
  refine⟨nE mi ms k S.length b S3.length (fX l) (.lst (cs.map .int)) ss a7 a8 (some (.d (.int c))) b12 b13,rfl,?_⟩
  refine(B_ hk (by omega) (by omega) (by omega) (by omega) (by omega) (by omega) (by omega) hkn (by omega) hgs N4).mono fun o S5 ⟨δ5,e5,h5,g,x,hg,hgx,N5⟩=>⟨δ5,e5,h5,ks++[x],gs++[g],by simp [hgl],by simp [hkn];omega,?_,hKI.add hgs hg hgx,N5⟩
  intro j g' hj
  by_cases hjl:j < gs.length
  ·rw[List.getElem?_append_left hjl] at hj;exact hgs j g' hj
  ·rw[List.getElem?_append_right (by omega)] at hj
   have h0:j - gs.length=0:=by
    have:=(List.getElem?_eq_some_iff.mp hj).1
    simp at this;omega
   rw[h0] at hj
   cases hj
   rw[show fX l+j=ks.length by omega]
   exact hg
 rw[List.length_map,List.length_map] at hgl
 subst hδ
 unfold nE
 refine gq <| rW <| aL <| w_var (v:= .loc S.length) rfl <| aL <| w_var (v:= .loc S3.length) rfl <| aL <| dX <| aL <| w_var (v:= .loc k) rfl <| aL <| w_var (v:= .loc b) rfl <| aL <| dn (d:= .lst (ss.map .str)) rfl <| aL <| dn (d:= .int 6) rfl <| cU <| zA N4.p (by omega) N4.eb (by omega) (by omega) hss fun os S5 hol1 hol hos v5=>cU ⟨by simp;omega,_,rfl,?_⟩
 have ea5:S5[S.length]? =some (.lst (l.map MT.inD)):=by rw[v5.oth _ (by omega)];exact N4.ea
 have ec5:S5[S3.length]? =some (.lst (gs.map iK)):=by rw[v5.oth _ (by omega)];exact N4.ec
 have hl5:=v5.len
 have hN4:=N4.len
 refine⟨v5.p.1,?_,bB l gs os,?_,?_⟩
 ·show fL S.length (.tup [.loc S.length, .loc S3.length, .d (.lst (os.map i0))])=true
  simp [fL,jY];omega
 ·show res S5 (.tup [.loc S.length, .loc S3.length, .d (.lst (os.map i0))])=_
  simp [res,gx,ea5,ec5,bB]
 ·refine h l gs os _ hlw (by omega) (by omega) (by omega) hgs hol1 hol (fun x hx=>⟨(hos x hx).1,by have:=(hos x hx).2.1;rw [hkn] at this;exact this,fun a b hab ms hms p=>hKI.v ms hms p a b ((hos x hx).2.1 a (by rw[hab];simp)) ((hos x hx).2.1 b (by rw[hab];simp)) ((hos x hx).2.2 a b hab)⟩) ⟨⟨v5.p.1.take _,?_⟩,by rw[List.length_take];omega,fun j hj=>?_⟩
  ·obtain⟨_,x,c,e⟩:=v5.p
   exact⟨x,c,by rw[List.getElem?_take_of_lt hk];exact e⟩
  ·by_cases hjl:j < S.length
   ·rw[List.getElem?_take_of_lt hjl,v5.oth j hj,N4.oth j hjl hj]
   ·rw[List.getElem?_eq_none (by rw[List.length_take];omega),List.getElem?_eq_none (by omega)]
end K11
end
section
set_option maxRecDepth 100000
set_option maxHeartbeats 4000000
namespace K11
open PySem PySem.Spec PyProof.Rows L2 L3 MT
noncomputable abbrev f0:M:=fun _=>false
theorem zQ{ws:List M}{b:M}{n:Nat}:jR (ws++[b]) n=if n < ws.length then jR ws n else if n=ws.length then b else f0:=by
 by_cases q:n < ws.length
 ·rw[if_pos q,pM q]
 ·rw[if_neg q]
  by_cases r:n=ws.length
  ·rw[if_pos r,r,qe]
  ·rw[if_neg r]
   unfold jR
   rw[List.getD_eq_getElem?_getD,List.getElem?_eq_none (by simp;omega)];rfl
section
variable {ins:List (Str × Nat)} {gs:List Gt} {ms ms':List M} {t bad:List Int} {p q:Nat}
noncomputable def uk(p q:Nat)(ws ws':List M):Prop:=ws.length=ws'.length∧∀n,jR ws n p=jR ws' n q
theorem uk.app{ws ws':List M}{b b':M}(h:uk p q ws ws')(hb:b p=b' q):uk p q (ws++[b]) (ws'++[b']):=by
 refine⟨by rw[List.length_append,List.length_append,h.1];rfl,fun n=>?_⟩
 rw[zQ,zQ,h.1]
 by_cases r:n < ws'.length
 ·rw[if_pos r,if_pos r];exact h.2 n
 ·rw[if_neg r,if_neg r]
  by_cases r2:n=ws'.length
  ·rw[if_pos r2,if_pos r2];exact hb
  ·rw[if_neg r2,if_neg r2]
theorem uk.row{b b':M}(hb:b p=b' q):∀m {ws ws':List M},uk p q ws ws'→uk p q (fu bad b m ws) (fu bad b' m ws')
 | 0,ws,ws',h=>h
 | m+1,ws,ws',h=>by
   have ih:=uk.row hb m h
   unfold fu
   refine ih.app ?_
   rw[hb,ih.1]
theorem uk.KL(h1:ms.length=ins.length)(h2:ms'.length=ins.length)(h:∀j,j < ins.length→ms.getD j f0 p=ms'.getD j f0 q):∀i,i≤ins.length→uk p q (cw ins ms bad i) (cw ins ms' bad i)
 | 0,_=>⟨rfl,fun n=>rfl⟩
 | i+1,hi=>by
   have e1:ms[i]? =some ms[i]:=List.getElem?_eq_getElem (by omega)
   have e2:ms'[i]? =some ms'[i]:=List.getElem?_eq_getElem (by omega)
   have hh:=h i (by omega)
   rw[List.getD_eq_getElem?_getD,e1,List.getD_eq_getElem?_getD,e2] at hh
   unfold cw
   rw[List.getElem?_eq_getElem (by omega:i < ins.length),e1,e2]
   exact uk.row hh _ (uk.KL h1 h2 h i (by omega))
theorem uk.Ei{w0 w0':List M}(h:uk p q w0 w0'):∀i,i≤gs.length→uk p q (j1 gs t w0 i) (j1 gs t w0' i)
 | 0,_=>h
 | i+1,hi=>by
   have ih:=uk.Ei h i (by omega)
   unfold j1
   rw[List.getElem?_eq_getElem (by omega:i < gs.length)]
   refine ih.app ?_
   show(gF gs[i] (j1 gs t w0 i) p !=t.contains (i:Int))=(gF gs[i] (j1 gs t w0' i) q !=t.contains (i:Int))
   unfold gF
   have:(gs[i].2.1.map fun n=>jR (j1 gs t w0 i) n p)=gs[i].2.1.map fun n=>jR (j1 gs t w0' i) n q:=List.map_congr_left fun n _=>ih.2 n
   rw[this]
theorem IE(h1:ms.length=ins.length)(h2:ms'.length=ins.length)(h:∀j,j < ins.length→ms.getD j f0 p=ms'.getD j f0 q)(n:Nat):jR (qC ins gs ms t bad) n p=jR (qC ins gs ms' t bad) n q:=
 (uk.Ei (uk.KL h1 h2 h _ (Nat.le_refl _)) _ (Nat.le_refl _)).2 n
end
noncomputable def cM(b:Bool):M:=fun _=>b
theorem JJ(f:M):mI 1 f=bI (f 0):=by
 unfold mI bI hV hV
 cases f 0 <;> rfl
section
variable {c:Nat} {ins:List (Str × Nat)} {gs:List Gt} {os:List (Str × List Nat)} {S:aS} {T:List Int}
theorem Fy{bits:List Bool}{p n:Nat}(hc:ins.length=c)(hp:(bS c)[p]? =some bits):jR (qC ins gs (bits.map cM) T []) n 0=jR (Wd c ins gs T []) n p:=by
 have hbl:=iG c bits (List.mem_of_getElem? hp)
 refine IE (by rw[List.length_map,hbl,hc]) (by rw[vn,hc]) (fun j hj=>?_) n
 rw[hc] at hj
 unfold tP
 rw[List.getD_eq_getElem?_getD,List.getElem?_map,List.getElem?_eq_getElem (by omega:j < bits.length),List.getD_eq_getElem?_getD,List.getElem?_map,List.getElem?_range hj]
 show bits[j]=Hd c j p
 unfold Hd
 rw[List.getD_eq_getElem?_getD (l:=bS c),hp]
 show _=bits.getD j false
 rw[List.getD_eq_getElem?_getD,List.getElem?_eq_getElem (by omega:j < bits.length)]
 rfl
noncomputable def tD(r:Bool × Bool):D:=if r.1 then .int 0 else if r.2 then .int 1 else .cI
theorem wo{N p:Nat}{f g:M}(hp:p < N):fQ [.tup [mI N f,mI N g], .int p]= .ok (tD (f p,g p)):=by
 unfold fQ sH tD
 have b0:b2 iq (aA f9 (ao (e2 ck (ag 0) (eC (.int 0))) (ao (ag 1) aD))) (eC (.int 1)) (cW jZ [.tup [mI N f,mI N g], .int p])= .ok (f p):=by
  refine ij (a:= .int (if decide (p < N) && f p then 1 else 0)) (b:= .int 1) (aP (ds:=[mI N f, .int (p:Nat)]) (aN (aJ (a:= .tup [mI N f,mI N g]) (b:= .int 0) rfl rfl Bm) rfl) BD) rfl ?_
  rw[decide_eq_true hp]
  cases f p <;> rfl
 have b1:b2 iq (aA f9 (ao (e2 ck (ag 0) (eC (.int 1))) (ao (ag 1) aD))) (eC (.int 1)) (cW jZ [.tup [mI N f,mI N g], .int p])= .ok (g p):=by
  refine ij (a:= .int (if decide (p < N) && g p then 1 else 0)) (b:= .int 1) (aP (ds:=[mI N g, .int (p:Nat)]) (aN (aJ (a:= .tup [mI N f,mI N g]) (b:= .int 1) rfl rfl CC) rfl) BD) rfl ?_
  rw[decide_eq_true hp]
  cases g p <;> rfl
 show lF jZ _ _= .ok (if f p then _ else if g p then _ else _)
 cases q0:f p with
 | true=>rw [q0] at b0;exact dh (NT.j_ (mT b0 (cL rfl)))
 | false=>
   rw[q0] at b0
   cases q1:g p with
   | true=>rw [q1] at b1;exact dh (bc (di b0 rfl) (NT.j_ (mT b1 (cL rfl))))
   | false=>rw [q1] at b1;exact dh (bc (di b0 rfl) (bc (di b1 rfl) (cL rfl)))
theorem vd{kd:Nat}{xs:List Bool}(hk:kd≤4)(hx:xs.length=ar kd):eF [.str (kS kd), .lst (xs.map bI)]= .ok (bI (gv kd xs)):=by
 match kd,hk,xs,hx with
 | 0,_,[a],_=>cases a <;> rfl
 | 1,_,[a,b],_=>cases a <;> cases b <;> rfl
 | 2,_,[a,b],_=>cases a <;> cases b <;> rfl
 | 3,_,[a,b],_=>cases a <;> cases b <;> rfl
 | 4,_,[a,b,c],_=>cases a <;> cases b <;> cases c <;> rfl
theorem uF{xs:List Bool}(h:1≤xs.length∧xs.length≤3):iJ [.lst (xs.map bI)]= .ok (tD (IW xs)):=by
 match xs,h with
 | [a],_=>cases a <;> rfl
 | [a,b],_=>cases a <;> cases b <;> rfl
 | [a,b,c],_=>cases a <;> cases b <;> cases c <;> rfl
theorem xX{ws:List M}{ns:List Nat}{δ:aw}{own:List Str}{kp:List Nat}{it:aw→R (List D)}(hn:∀n∈ns,n < ws.length)(hl:ns.length < 1000)(hit:it δ= .ok (ns.map nI))(hkp:qO own kp δ=[.un, .val (.lst (ws.map (mI 1)))]) :
 il it (bw 0) oW (e2 ck (ag 1) (ag 0)) own kp δ= .ok ((ns.map fun n=>jR ws n 0).map bI):=by
 have hz:sizeLine=16777216:=sizeLine_eq
 refine gh hit (by rw[List.length_map];omega) ?_
 rw[hkp,List.map_map]
 refine NT.dZ nI _ fun n hn'=>⟨[.val (nI n), .val (.lst (ws.map (mI 1)))],rfl,rfl,?_⟩
 refine(aJ (a:= .lst (ws.map (mI 1))) (b:=nI n) rfl rfl (zO (hn n hn'))).trans ?_
 rw[JJ];rfl
theorem CM(b c:Bool):(dH (bI b) (.int (if c then 1 else 0))).bind (fun x=>g9 x (.int 2))= .ok (bI (b !=c)):=by cases b <;> cases c <;> rfl
theorem Af(c:Bool):oI [.bl c]= .ok (.int (if c then 1 else 0)):=rfl
theorem xv{f g:FD}{δ:aw}{b c:Bool}(hf:f δ= .ok (bI b))(hg:g δ= .ok (.int (if c then 1 else 0))):e2 g9 (e2 dH f g) (eC (.int 2)) δ= .ok (bI (b !=c)):=by
 rw[←CM]
 unfold e2
 rw[hf,R.aV,hg,R.aV]
 cases b <;> cases c <;> rfl
noncomputable def kh(nt bitsD tD bD:D)(ws:List M)(a5 a6 a7 a8 a9 a10 a11:Sl):aw:=[.val nt, .val bitsD, .val tD, .val bD, .bld (ws.map (mI 1)),a5,a6,a7,a8,a9,a10,a11]
theorem DU{bits:List Bool}{i:Nat}(h:i < bits.length):ck (.tup (bits.map bI)) (.int i)= .ok (bI bits[i]):=NT.CK (by rw[List.getElem?_map,List.getElem?_eq_getElem h];rfl)
theorem JL{bits:List Bool}{bad:List Int}{nt tD:D}{ws:List M}{i:Nat}{a6 a7 a8 a9 a10 a11:Sl}(hi:i < bits.length)(hl:ws.length < 20000) :
 gL (kh nt (.tup (bits.map bI)) tD (.tup (bad.map .int)) ws (.val (.int i)) a6 a7 a8 a9 a10 a11)= .ok (.nx (kh nt (.tup (bits.map bI)) tD (.tup (bad.map .int)) (ws++[fun p=>cM bits[i] p !=bad.contains (ws.length:Int)]) (.val (.int i)) a6 a7 a8 a9 a10 a11)):=by
 have hz:sizeLine=16777216:=sizeLine_eq
 unfold gL
 refine(xn (i:=4) (d:=bI (bits[i] !=bad.contains (ws.length:Int))) (ds:=ws.map (mI 1)) ?_ rfl (by rw[List.length_map];omega)).trans ?_
 ·refine xv (aJ (a:= .tup (bits.map bI)) (b:= .int i) rfl rfl (DU hi)) ?_
  refine aP (ds:=[.bl (bad.contains (ws.length:Int))]) (aN (ur ?_ rfl) rfl) (Af _)
  exact aJ (a:= .int ws.length) (b:= .tup (bad.map .int)) (aP (ds:=[.lst (ws.map (mI 1))]) rfl (by rw[kF,List.length_map])) rfl (pK _ _)
 ·unfold kh
  rw[List.map_append,List.map_cons,JJ]
  rfl
section
variable {bits:List Bool} {bad:List Int}
theorem AJ(NO:i8 ins gs os)(hb:bits.length=ins.length)(i:Nat)(hi:i≤ins.length):(cw ins (bits.map cM) bad i).length≤100*i:=by
 rw[jN (by rw[List.length_map,hb]) i hi]
 refine Nat.le_trans (qj fun x hx=>NO.hw x (List.mem_of_mem_take hx)) ?_
 rw[List.length_take]
 exact Nat.mul_le_mul_left _ (by omega)
theorem JH(NO:i8 ins gs os)(hb:bits.length=ins.length){tD:D}{i:Nat}{a6 a7 a8 a9 a10 a11:Sl}(hi:i < ins.length) :
 ∃b6,gT (kh (bB ins gs os) (.tup (bits.map bI)) tD (.tup (bad.map .int)) (cw ins (bits.map cM) bad i) (.val (.int i)) a6 a7 a8 a9 a10 a11)= .ok (.nx (kh (bB ins gs os) (.tup (bits.map bI)) tD (.tup (bad.map .int)) (cw ins (bits.map cM) bad (i+1)) (.val (.int i)) b6 a7 a8 a9 a10 a11)):=by
 have hwi:=NO.hw ins[i] (List.getElem_mem _)
 have hN:=NO.hi
 have hb':i < bits.length:=by omega
 have h1:ins[i]? =some ins[i]:=List.getElem?_eq_getElem hi
 have h2:(bits.map cM)[i]? =some (cM bits[i]):=by rw[List.getElem?_map,List.getElem?_eq_getElem hb'];rfl
 unfold gT
 obtain⟨δ',e,b6,hδ⟩:=gJ (t:=bw 6) (body:=gL) (ds:=b_ 0 ins[i].2) (fun j δ=>∃b6,δ=kh (bB ins gs os) (.tup (bits.map bI)) tD (.tup (bad.map .int)) (fu bad (cM bits[i]) j (cw ins (bits.map cM) bad i)) (.val (.int i)) b6 a7 a8 a9 a10 a11)
  (δ:=kh (bB ins gs os) (.tup (bits.map bI)) tD (.tup (bad.map .int)) (cw ins (bits.map cM) bad i) (.val (.int i)) a6 a7 a8 a9 a10 a11) ⟨a6,rfl⟩ (fun j d δ hd ⟨b6,hδ⟩=>by
    subst hδ
    obtain⟨hj,rfl⟩:=jC hd
    have:=AJ (bad:=bad) NO hb i (by omega)
    exact⟨_,JL (a6:= .val (.int j)) hb' (by rw[fR];omega),_,rfl⟩)
 refine⟨b6,(i_ (ds:=b_ 0 ins[i].2) (eU ?_ (by omega)) e).trans ?_⟩
 ·exact aJ (a:=inD ins[i]) (b:= .int 1) (aJ (a:= .lst (ins.map inD)) (b:= .int i) (aJ (a:=bB ins gs os) (b:= .int 0) rfl rfl rfl) rfl (NT.px (by rw[List.getElem?_map,h1];rfl))) rfl rfl
 ·rw[hδ]
  have hl:(b_ 0 ins[i].2).length=ins[i].2:=by simp [b_]
  rw[hl]
  have:cw ins (bits.map cM) bad (i+1)=fu bad (cM bits[i]) ins[i].2 (cw ins (bits.map cM) bad i):=by
   show(match ins[i]?,(bits.map cM)[i]? with | some x,some b=>fu bad b x.2 (cw ins (bits.map cM) bad i) | _,_=>cw ins (bits.map cM) bad i)=_
   rw[h1,h2]
  rw[this]
theorem Jx{bD:D}{bitsD:D}{ws:List M}{i:Nat}{g:Gt}{a5 a6 a8 a9 a10 a11:Sl}(q:gs[i]? =some g)(hg:lh ws.length g)(hl:ws.length < 200000) :
 ∃b8 b9 b10 b11,gU (kh (bB ins gs os) bitsD (.tup (T.map .int)) bD ws a5 a6 (.val (.int i)) a8 a9 a10 a11)= .ok (.nx (kh (bB ins gs os) bitsD (.tup (T.map .int)) bD (ws++[fun p=>gF g ws p !=T.contains (i:Int)]) a5 a6 (.val (.int i)) b8 b9 b10 b11)):=by
 have hz:sizeLine=16777216:=sizeLine_eq
 have ha:=uK g.1
 unfold gU
 refine⟨.val (.str (kS g.1)), .val (.tup (g.2.1.map nI)), .val (.bl g.2.2), .val (bI (gF g ws 0)),?_⟩
 refine bc (δ1:=kh (bB ins gs os) bitsD (.tup (T.map .int)) bD ws a5 a6 (.val (.int i)) (.val (.str (kS g.1))) (.val (.tup (g.2.1.map nI))) (.val (.bl g.2.2)) a11) ?_ ?_
 ·unfold oV
  rw[aJ (a:= .lst (gs.map iK)) (b:= .int i) (aJ (a:=bB ins gs os) (b:= .int 1) rfl rfl rfl) rfl (NT.px (x:=iK g) (by rw[List.getElem?_map,q];rfl)),R.aV]
  rfl
 refine bc (gR (d:=bI (gF g ws 0)) (ur ?_ rfl) (by unfold kh;simp only[List.length_cons,List.length_nil];omega)) ?_
 ·refine aP (ds:=[.str (kS g.1), .lst ((g.2.1.map fun n=>jR ws n 0).map bI)]) (aN rfl (aN (et ?_) rfl)) (vd hg.1 (by rw[List.length_map];exact hg.2.1))
  exact xX (ws:=ws) (ns:=g.2.1) hg.2.2 (by rw[hg.2.1];omega) (vM rfl) rfl
 refine(xn (i:=4) (d:=bI (gF g ws 0 !=T.contains (i:Int))) (ds:=ws.map (mI 1)) ?_ rfl (by rw[List.length_map];omega)).trans ?_
 ·exact xv rfl (aP (ds:=[.bl (T.contains (i:Int))]) (aN (aJ (a:= .int i) (b:= .tup (T.map .int)) rfl rfl (pK _ _)) rfl) (Af _))
 ·unfold kh
  rw[List.map_append,List.map_cons,JJ]
  rfl
theorem yT(NO:i8 ins gs os)(hb:bits.length=ins.length):fP [bB ins gs os, .tup (bits.map bI), .tup (T.map .int), .tup (bad.map .int)]= .ok (.lst ((qC ins gs (bits.map cM) T bad).map (mI 1))):=by
 have hz:sizeLine=16777216:=sizeLine_eq
 have hwd:=qj NO.hw
 have hN:=NO.hi
 have hG:=NO.hg
 have hbl:(bits.map cM).length=ins.length:=by rw[List.length_map,hb]
 unfold fP oh
 refine dh (bc (δ1:=kh (bB ins gs os) (.tup (bits.map bI)) (.tup (T.map .int)) (.tup (bad.map .int)) [] .un .un .un .un .un .un .un) rfl ?_)
 obtain⟨δ1,e1,a5,a6,h1⟩:=gJ (t:=bw 5) (body:=gT) (ds:=b_ 0 ins.length) (fun i δ=>∃a5 a6,δ=kh (bB ins gs os) (.tup (bits.map bI)) (.tup (T.map .int)) (.tup (bad.map .int)) (cw ins (bits.map cM) bad i) a5 a6 .un .un .un .un .un)
  (δ:=kh (bB ins gs os) (.tup (bits.map bI)) (.tup (T.map .int)) (.tup (bad.map .int)) [] .un .un .un .un .un .un .un) ⟨.un, .un,rfl⟩ (fun i d δ hd ⟨a5,a6,hδ⟩=>by
    subst hδ
    obtain⟨hi,rfl⟩:=jC hd
    obtain⟨b6,e⟩:=JH (bad:=bad) NO hb (tD:= .tup (T.map .int)) (a6:=a6) (a7:= .un) (a8:= .un) (a9:= .un) (a10:= .un) (a11:= .un) hi
    exact⟨_,e,_,_,rfl⟩)
 refine bc (i_ (ds:=b_ 0 ins.length) (eU (aP (ds:=[.lst (ins.map inD)]) (aN (aJ (a:=bB ins gs os) (b:= .int 0) rfl rfl rfl) rfl) (by rw[kF,List.length_map])) (by omega)) e1) ?_
 have hl0:(b_ 0 ins.length).length=ins.length:=by simp [b_]
 rw[hl0] at h1
 subst h1
 obtain⟨δ2,e2',b7,b8,b9,b10,b11,h2⟩:=gJ (t:=bw 7) (body:=gU) (ds:=b_ 0 gs.length) (fun i δ=>∃b7 b8 b9 b10 b11,δ=kh (bB ins gs os) (.tup (bits.map bI)) (.tup (T.map .int)) (.tup (bad.map .int)) (j1 gs T (cw ins (bits.map cM) bad ins.length) i) a5 a6 b7 b8 b9 b10 b11)
  (δ:=kh (bB ins gs os) (.tup (bits.map bI)) (.tup (T.map .int)) (.tup (bad.map .int)) (cw ins (bits.map cM) bad ins.length) a5 a6 .un .un .un .un .un) ⟨_,_,_,_,_,rfl⟩ (fun i d δ hd ⟨b7,b8,b9,b10,b11,hδ⟩=>by
    subst hδ
    obtain⟨hi,rfl⟩:=jC hd
    have q:gs[i]? =some gs[i]:=List.getElem?_eq_getElem hi
    have hl:(j1 gs T (cw ins (bits.map cM) bad ins.length) i).length=fX ins+i:=by rw[lH _ (by omega),jN hbl _ (Nat.le_refl _),List.take_length]
    obtain⟨c8,c9,c10,c11,e⟩:=Jx (ins:=ins) (os:=os) (T:=T) (bD:= .tup (bad.map .int)) (bitsD:= .tup (bits.map bI)) (ws:=j1 gs T (cw ins (bits.map cM) bad ins.length) i) (a5:=a5) (a6:=a6) (a8:=b8) (a9:=b9) (a10:=b10) (a11:=b11) q (by rw[hl];exact NO.g i _ q) (by rw[hl];omega)
    refine⟨_,e, .val (.int i),c8,c9,c10,c11,?_⟩
    show kh _ _ _ _ _ _ _ _ _ _ _ _=kh _ _ _ _ (match gs[i]? with | some g=>j1 gs T (cw ins (bits.map cM) bad ins.length) i++[fun p=>gF g (j1 gs T (cw ins (bits.map cM) bad ins.length) i) p !=T.contains (i:Int)] | none=>j1 gs T (cw ins (bits.map cM) bad ins.length) i) _ _ _ _ _ _ _
    rw[q])
 refine bc (i_ (ds:=b_ 0 gs.length) (eU (aP (ds:=[.lst (gs.map iK)]) (aN (aJ (a:=bB ins gs os) (b:= .int 1) rfl rfl rfl) rfl) (by rw[kF,List.length_map])) (by omega)) e2') ?_
 have hl2:(b_ 0 gs.length).length=gs.length:=by simp [b_]
 rw[hl2] at h2
 subst h2
 rfl
end
noncomputable def RD(c:Nat)(ins:List (Str × Nat))(gs:List Gt)(os:List (Str × List Nat))(T:List Int)(p:Nat):List D:=os.map fun x=>tD (pt (Wd c ins gs T []) x p)
theorem t6{bits:List Bool}{p:Nat}(NO:i8 ins gs os)(hc:ins.length=c)(ho:∀x∈os,1≤x.2.length∧x.2.length≤3)(hp:(bS c)[p]? =some bits) :
 g6 [bB ins gs os,cD bits, .tup (T.map .int), .tup []]= .ok (.lst (RD c ins gs os T p)):=by
 have hz:sizeLine=16777216:=sizeLine_eq
 have hO:=NO.ho
 have hbl:=iG c bits (List.mem_of_getElem? hp)
 have hb:bits.length=ins.length:=by rw[hbl,hc]
 unfold g6 og
 refine dh (bc (gR (d:= .lst ((qC ins gs (bits.map cM) T []).map (mI 1))) (aP (ds:=[bB ins gs os, .tup (bits.map bI), .tup (T.map .int), .tup (([]:List Int).map .int)]) rfl (yT NO hb)) (by simp [cW,ja])) ?_)
 refine cL (et (gh (ds:=os.map i0) (mh (aJ (a:=bB ins gs os) (b:= .int 2) rfl rfl rfl)) (by rw[List.length_map];omega) ?_))
 unfold RD
 refine NT.dZ i0 _ fun x hx=>⟨[.val (.str x.1), .val (.tup (x.2.map nI)), .val (.lst ((qC ins gs (bits.map cM) T []).map (mI 1)))],rfl,rfl,?_⟩
 obtain⟨o1,o2⟩:=NO.o x hx
 refine(aP (ds:=[.lst ((x.2.map fun n=>jR (qC ins gs (bits.map cM) T []) n 0).map bI)]) (aN (et (xX (fun n hn=>by rw[vt (by rw[List.length_map,hb])];exact o2 n hn) o1 (vM rfl) rfl)) rfl) (uF (by rw[List.length_map];exact ho x hx))).trans ?_
 congr 2
 unfold pt tell
 rw[List.map_map]
 congr 1
 exact List.map_congr_left fun n _=>Fy hc hp
theorem AQ{k:Nat}{nt:D}{f g:M}(hc:c≤10)(hb:S[k]? =some (.ins 0 (cv c nt))){Q:V3→aS→Prop}(h:Q (.loc S.length) (S++[.lst ((List.range (2 ^ c)).map fun p=>tD (f p,g p))])) :
 W3 (dq [.loc k, .d (.tup [mI (2 ^ c) f,mI (2 ^ c) g])] S) Q:=by
 have hz:sizeLine=16777216:=sizeLine_eq
 have hp:2 ^ c≤1024:=Nat.pow_le_pow_right (by omega) hc
 unfold dq
 refine uf rfl ?_
 simp only[bX,eL,List.map_cons,List.map_nil,List.length_cons,List.length_nil,List.replicate,List.cons_append,List.nil_append,Nat.reduceAdd,Nat.reduceSub]
 unfold iW
 refine gq <| DO (fun j ds S2=>S2=S∧ds=(List.range j).map fun p=>tD (f p,g p)) ?_
 refine nQ <| w_fld (k:=k) <| w_var (v:= .loc k) rfl ⟨_,_,rfl,hb,Cw,2 ^ c,rfl,by omega,?_⟩
 have hlen:((b_ 0 (2 ^ c)).map V3.d).length=2 ^ c:=by simp [b_]
 rw[hlen]
 refine⟨by omega,⟨rfl,rfl⟩,?_,?_⟩
 ·rintro j v ds S2 hv ⟨rfl,rfl⟩
  obtain⟨hj,rfl⟩:=NT.jC hv
  refine⟨[some (.d (.int j)),some (.d (.tup [mI (2 ^ c) f,mI (2 ^ c) g]))],rfl,rR ?_⟩
  rw[if_pos rfl,List.range_succ,List.map_append]
  exact dn (d:=tD (f j,g j)) (aP (ds:=[.tup [mI (2 ^ c) f,mI (2 ^ c) g], .int j]) rfl (wo hj)) ⟨_,rfl,rfl,rfl⟩
 ·rintro ds S2 ⟨rfl,rfl⟩
  exact⟨_,rfl,h⟩
noncomputable def LB(c:Nat)(ins:List (Str × Nat))(gs:List Gt)(os:List (Str × List Nat)):D:= .lst (os.map fun x=> .lst ((List.range (2 ^ c)).map fun p=>tD (pt (Wd c ins gs [] []) x p)))
noncomputable def lcs(n m:Nat):List V3:=(List.range m).map fun j=>V3.loc (n+j)
noncomputable def cS(c:Nat)(ins:List (Str × Nat))(gs:List Gt)(os:List (Str × List Nat)):aS:=os.map fun x=>SO.lst ((List.range (2 ^ c)).map fun p=>tD (pt (Wd c ins gs [] []) x p))
theorem yh{n m:Nat}(h:1≤m):ig (lcs n m)= .lst (lcs n m):=by
 obtain⟨k,rfl⟩:∃k,m=k+1:=⟨m - 1,by omega⟩
 unfold lcs
 rw[List.range_succ_eq_map,List.map_cons]
 rfl
theorem A2:∀(n n':Nat) (l:List Nat),n≤n'→jY n (l.map fun j=>V3.loc (n'+j))=true
 | n,n',[],_=>by unfold List.map jY;rfl
 | n,n',x ::l,h=>by
   rw[List.map_cons]
   unfold jY
   rw[A2 n n' l h,Bool.and_true]
   show decide (n≤n'+x)=true
   exact decide_eq_true (by omega)
theorem xF{S1:aS}{n:Nat}{F:Nat→List D}:∀(l:List Nat),(∀j∈l,S1[n+j]? =some (.lst (F j)))→gx S1 (l.map fun j=>V3.loc (n+j))=some (l.map fun j=>D.lst (F j))
 | [],_=>by rw[List.map_nil,List.map_nil];unfold gx;rfl
 | x ::l,h=>by
   rw[List.map_cons,List.map_cons]
   unfold gx
   rw[xF l fun j hj=>h j (List.mem_cons_of_mem _ hj)]
   unfold res
   rw[h x List.mem_cons_self];rfl
theorem range_getD{α β:Type}(F:α→β)(d:α)(os:List α):(List.range os.length).map (fun j=>F (os.getD j d))=os.map F:=by
 refine List.ext_getElem? fun i=>?_
 rw[List.getElem?_map,List.getElem?_map]
 by_cases q:i < os.length
 ·rw[List.getElem?_range q,List.getElem?_eq_getElem q]
  show some (F (os.getD i d))=some (F os[i])
  rw[List.getD_eq_getElem?_getD,List.getElem?_eq_getElem q];rfl
 ·rw[List.getElem?_eq_none (by simp;omega),List.getElem?_eq_none (by omega)];rfl
theorem se(NO:i8 ins gs os)(hc:ins.length=c)(hc1:c≤10)(ho1:1≤os.length)(ho:∀x∈os,1≤x.2.length∧x.2.length≤3)(hS:qZ S){Q:V3→aS→Prop}(h:Q (.lst (lcs (S.length+1) os.length)) (S++SO.ins 0 (cv c (bB ins gs os)) ::cS c ins gs os)) :
 W3 (iO [.d (bB ins gs os)] S) Q:=by
 have hz:sizeLine=16777216:=sizeLine_eq
 have hO:=NO.ho
 unfold iO
 refine uf rfl ?_
 simp only[bX,iH,List.map_cons,List.map_nil,List.length_cons,List.length_nil,List.replicate,List.cons_append,List.nil_append,Nat.reduceAdd,Nat.reduceSub]
 unfold lq
 have hc0:∀fs:List (Str × V3),hW (S.length+1) (fs.map (·.2))=true→qZ (S++[.ins 0 fs]):=fun fs hf o ho'=>by
  rw[show(S++[SO.ins 0 fs]).length=S.length+1 by simp]
  rcases List.mem_append.mp ho' with q | q
  ·exact lK (by omega) o (hS o q)
  ·rw[List.mem_singleton.mp q];exact hf
 have hb0:(S++[SO.ins 0 (cv c (bB ins gs os))])[S.length]? =some (.ins 0 (cv c (bB ins gs os))):=bH _ _
 have hb:∀T:aS,(S++[SO.ins 0 (cv c (bB ins gs os))]++T)[S.length]? =some (.ins 0 (cv c (bB ins gs os))):=fun T=>by rw[List.getElem?_append_left (by simp)];exact hb0
 have hcl:qZ (S++[SO.ins 0 (cv c (bB ins gs os))]):=hc0 _ rfl
 refine aW <| bA (by simp only[List.length_cons,List.length_nil,List.length_set];omega) <| AB <| aL <| dn (d:=bB ins gs os) rfl <| cU <| x4 hc hc1 (hc0 _ rfl) ⟨rfl,_,rfl,?_⟩
 simp only[List.set_cons_succ,List.set_cons_zero]
 refine gq <| wg <| tf <| tS (k:=S.length) <| w_var (v:= .loc S.length) rfl ⟨_,rfl,hb0,Cu _ _ (by decide+kernel) (by decide+kernel) (by decide+kernel) (by decide+kernel),?_⟩
 refine aL <| dn (d:= .tup (([]:List Int).map .int)) rfl <| cU <| ox NO hc ho hcl hb0 ⟨_,rfl,?_,?_⟩
 ·rw[List.length_map,Az,List.length_map];omega
 refine(lu (fun i ys S2=>ys=lcs (S.length+1) i∧S2=S++[SO.ins 0 (cv c (bB ins gs os))]++(cS c ins gs os).take i) ⟨rfl,by simp⟩ ?_).mono fun ys S2 ⟨e1,e2'⟩=>?_
 ·rintro i v ys S2 hv ⟨rfl,rfl⟩
  rw[Az] at hv
  obtain⟨x,hx,rfl⟩:=NT.nJ hv
  have hil:=(List.getElem?_eq_some_iff.mp hx).1
  have hln:(S++[SO.ins 0 (cv c (bB ins gs os))]++(cS c ins gs os).take i).length=S.length+1+i:=by
   rw[List.length_append,List.length_append,List.length_take]
   unfold cS
   rw[List.length_map]
   simp;omega
  refine⟨[some (.d (.tup [mI (2 ^ c) (r0 (tell (Wd c ins gs [] []) x)),mI (2 ^ c) (r1 (tell (Wd c ins gs [] []) x))])),some (.loc S.length)],rfl,rR ?_⟩
  rw[if_pos rfl]
  refine tS (k:=S.length) <| w_var (v:= .loc S.length) rfl ⟨_,rfl,hb _,Cu _ _ (by decide+kernel) (by decide+kernel) (by decide+kernel) (by decide+kernel),?_⟩
  refine aL <| dn (d:= .tup [mI (2 ^ c) (r0 (tell (Wd c ins gs [] []) x)),mI (2 ^ c) (r1 (tell (Wd c ins gs [] []) x))]) rfl <| cU <| AQ hc1 (hb _) ⟨?_,?_⟩
  ·rw[hln]
   unfold lcs
   rw[List.range_succ,List.map_append];rfl
  ·rw[List.append_assoc _ (List.take i _)]
   congr 1
   unfold cS
   rw[List.take_add_one,List.getElem?_map,hx]
   rfl
 ·subst e1 e2'
  have hel:((Az (2 ^ c) os (Wd c ins gs [] [])).map V3.d).length=os.length:=by unfold Az;simp
  rw[hel,yh ho1,List.take_of_length_le (by unfold cS;simp)]
  refine⟨_,rfl,?_⟩
  rw[List.append_assoc]
  exact h
end
end K11
end
section
set_option maxRecDepth 100000
set_option maxHeartbeats 4000000
namespace K11
open PySem PySem.Spec PyProof.Rows L2 L3 MT
theorem EK{ds es:List D}(h:ds.length+es.length≤sizeLine):lU (.lst ds) (.lst es)= .ok (.lst (ds++es)):=lx h
theorem yL(l:List (List Bool)):(l.flatMap fun b=>[b++[false],b++[true]]).length=2*l.length:=by
 rw[List.length_flatMap]
 have:l.map (fun b=>[b++[false],b++[true]].length)=l.map fun _=>2:=rfl
 rw[this,List.map_const',List.sum_replicate_nat]
 omega
theorem zt{c:Nat}(hc:c≤10):dD [nI c]= .ok (.lst ((bS c).map cD)):=by
 have hz:sizeLine=16777216:=sizeLine_eq
 unfold dD mJ
 refine dh (bc (gR (d:= .lst ((bS 0).map cD)) rfl (by simp [cW,j9])) ?_)
 obtain⟨δ1,e1,a2,a3,a4,hδ1⟩:=gJ (t:=bw 2) (body:=iV) (ds:=b_ 0 c)
  (fun i δ=>∃a2 a3 a4,δ=[.val (nI c), .val (.lst ((bS i).map cD)),a2,a3,a4]) (δ:=[.val (nI c), .val (.lst ((bS 0).map cD)), .un, .un, .un]) ⟨.un, .un, .un,rfl⟩ (by
    rintro i d δ hd ⟨a2,a3,a4,rfl⟩
    have hi:i < c:=by
     have:=(List.getElem?_eq_some_iff.mp hd).1
     simpa [b_] using this
    have hpow:(bS i).length≤1024:=by
     rw[cV]
     exact Nat.pow_le_pow_right (by omega) (by omega:i≤10)
    generalize hL:D.lst ((bS i).map cD)=Li
    rw[show bw 2 d [.val (nI c), .val Li,a2,a3,a4]= .ok [.val (nI c), .val Li, .val d,a3,a4] from rfl,R.aV]
    unfold iV
    obtain⟨δ2,e2',b4,hδ2⟩:=gJ (t:=bw 4) (body:=iL) (ds:=(bS i).map cD)
     (fun j δ=>∃b4,δ=[.val (nI c), .val Li, .val d, .val (.lst ((((bS i).take j).flatMap fun b=>[b++[false],b++[true]]).map cD)),b4]) (δ:=[.val (nI c), .val Li, .val d, .val (.lst []),a4]) ⟨a4,by simp⟩ (by
       rintro j x δ hx ⟨b4,rfl⟩
       obtain⟨b,hb,rfl⟩:=NT.ye hx
       have hjl:=(List.getElem?_eq_some_iff.mp hb).1
       have hbl:=iG i b (List.mem_of_getElem? hb)
       have hlen:=yL ((bS i).take j)
       rw[List.length_take] at hlen
       refine⟨[.val (nI c), .val Li, .val d, .val (.lst ((((bS i).take (j+1)).flatMap fun b=>[b++[false],b++[true]]).map cD)), .val (cD b)],?_,⟨_,rfl⟩⟩
       have hst:(((bS i).take (j+1)).flatMap fun b=>[b++[false],b++[true]]).map cD=(((bS i).take j).flatMap fun b=>[b++[false],b++[true]]).map cD++[cD (b++[false]),cD (b++[true])]:=by
        rw[List.take_add_one,hb,List.flatMap_append,List.map_append]
        simp
       rw[hst]
       generalize hG:(((bS i).take j).flatMap fun b=>[b++[false],b++[true]]).map cD=G
       have hGl:G.length≤2048:=by rw[←hG,List.length_map];omega
       rw[show bw 4 (cD b) [.val (nI c), .val Li, .val d, .val (.lst G),b4]= .ok [.val (nI c), .val Li, .val d, .val (.lst G), .val (cD b)] from rfl,R.aV]
       unfold iL
       have add:∀(x:Bool),e2 lU (ag 4) (fA (ao (eC (bI x)) aD)) [.val (nI c), .val Li, .val d, .val (.lst G), .val (cD b)]= .ok (cD (b++[x])):=fun x=>by
        refine aJ (a:=cD b) (b:= .tup [bI x]) rfl (i5 rfl (by simp;omega)) ?_
        show R.bZ (decide ((b.map bI).length+[bI x].length≤sizeLine)) _=_
        rw[cc _ (by rw[List.length_map];simp;omega)]
        unfold cD
        rw[List.map_append];rfl
       exact gR (aJ (a:= .lst G) (b:= .lst [cD (b++[false]),cD (b++[true])]) rfl (et (m4 (aN (add false) (aN (add true) rfl)) (by simp;omega))) (EK (by simp;omega))) (by simp))
    rw[List.length_map,List.take_length] at hδ2
    subst hδ2
    refine⟨_,bc (gR (d:= .lst []) rfl (by simp)) (bc (i_ (ds:=(bS i).map cD) (mh (by rw[hL];rfl)) e2') (gR (d:= .lst ((bS (i+1)).map cD)) rfl (by simp))),⟨.val d, .val (.lst ((bS (i+1)).map cD)),b4,rfl⟩⟩)
 refine bc (i_ (ds:=b_ 0 c) (eU (n:=c) rfl (by omega)) e1) ?_
 have hlen:(b_ 0 c).length=c:=by simp [b_]
 rw[hlen] at hδ1
 subst hδ1
 exact cL rfl
noncomputable def Al(n:Nat)(d:D):Prop:=bb n [d,d]= .ok (.bl true)
theorem sL(n:Nat)(i:Int):Al (n+1) (.int i):=by
 have:bb (n+1) [.int i, .int i]= .ok (.bl (decide (i=i))):=rfl
 unfold Al
 rw[this,decide_eq_true rfl]
theorem xj(n:Nat)(x:Str):Al (n+1) (.str x):=by
 have:bb (n+1) [.str x, .str x]= .ok (.bl (decide (x=x))):=rfl
 unfold Al
 rw[this,decide_eq_true rfl]
theorem HQ(n:Nat)(b:Bool):Al (n+1) (.bl b):=by
 have:bb (n+1) [.bl b, .bl b]= .ok (.bl (decide (b=b))):=rfl
 unfold Al
 rw[this,decide_eq_true rfl]
theorem xw{n:Nat}{d:D}{ds:List D}(hix:∀(i:Nat) (x:D),ds[i]? =some x→ck d (.int i)= .ok x)(h:∀x∈ds,Al n x):∃a,mF (bw 2) (fD (bb n)) (b_ 0 ds.length) [.val d, .val d, .un]= .ok (.nx [.val d, .val d,a]):=by
 obtain⟨δ',e,a,hδ⟩:=gJ (t:=bw 2) (body:=fD (bb n)) (ds:=b_ 0 ds.length) (fun i δ=>∃a,δ=[.val d, .val d,a]) (δ:=[.val d, .val d, .un]) ⟨.un,rfl⟩ (fun i x δ hx ⟨a,hδ⟩=>by
  subst hδ
  obtain⟨hi,rfl⟩:=jC hx
  have q:ds[i]? =some ds[i]:=List.getElem?_eq_getElem hi
  refine⟨[.val d, .val d, .val (.int i)],?_,_,rfl⟩
  show fD (bb n) [.val d, .val d, .val (.int i)]=_
  unfold fD
  refine di ?_ rfl
  have e1:aA (bb n) (ao (e2 ck (ag 0) (ag 2)) (ao (e2 ck (ag 1) (ag 2)) aD)) [.val d, .val d, .val (.int i)]= .ok (.bl true):=
   aP (ds:=[ds[i],ds[i]]) (aN (aJ (a:=d) (b:= .int i) rfl rfl (hix i _ q)) (aN (aJ (a:=d) (b:= .int i) rfl rfl (hix i _ q)) rfl)) (h _ (List.getElem_mem hi))
  unfold ia gb
  rw[e1];rfl)
 exact⟨a,by rw[e,hδ]⟩
theorem pX{n:Nat}{ds:List D}(hl:ds.length < 100000)(h:∀x∈ds,Al n x):Al (n+1) (.tup ds):=by
 obtain⟨a,e⟩:=xw (d:= .tup ds) (fun i x hx=>nW (nV hx)) h
 unfold Al
 show lF js (gY (bb n)) [.tup ds, .tup ds]=_
 unfold gY
 refine dh (bc (di rfl rfl) (bc (di rfl rfl) (bc (di rfl rfl) (bc (di rfl rfl) (bc (mT rfl (di rfl rfl)) (bc (di ?_ rfl) (bc (i_ (eU (n:=ds.length) rfl (by omega)) e) (cL rfl))))))))
 exact ij (a:= .int ds.length) (b:= .int ds.length) rfl rfl (ne_int _)
theorem qS{n:Nat}{ds:List D}(hl:ds.length < 100000)(h:∀x∈ds,Al n x):Al (n+1) (.lst ds):=by
 obtain⟨a,e⟩:=xw (d:= .lst ds) (fun i x hx=>jA (nV hx)) h
 unfold Al
 show lF js (gY (bb n)) [.lst ds, .lst ds]=_
 unfold gY
 refine dh (bc (di rfl rfl) (bc (di rfl rfl) (bc (di rfl rfl) (bc (di rfl rfl) (bc (di rfl (di rfl rfl)) (bc (di ?_ rfl) (bc (i_ (eU (n:=ds.length) rfl (by omega)) e) (cL rfl))))))))
 exact ij (a:= .int ds.length) (b:= .int ds.length) rfl rfl (ne_int _)
section
variable {ins:List (Str × Nat)} {gs:List Gt} {os:List (Str × List Nat)}
theorem Er(n:Nat){ns:List Nat}(h:ns.length < 100000):Al (n+2) (.tup (ns.map nI)):=pX (by rw[List.length_map];exact h) fun x hx=>by obtain⟨m,_,rfl⟩:=List.mem_map.mp hx;exact sL _ _
theorem Gw(NO:i8 ins gs os):Al 5 (bB ins gs os):=by
 have hO:=NO.ho
 have hI:=NO.hi
 have hG:=NO.hg
 refine pX (by simp) fun x hx=>?_
 simp only[List.mem_cons,List.not_mem_nil,or_false] at hx
 rcases hx with rfl | rfl | rfl
 ·refine qS (by rw[List.length_map];omega) fun x hx=>?_
  obtain⟨y,hy,rfl⟩:=List.mem_map.mp hx
  refine pX (by simp) fun z hz=>?_
  simp only[List.mem_cons,List.not_mem_nil,or_false] at hz
  rcases hz with rfl | rfl
  ·exact xj _ _
  ·exact sL _ _
 ·refine qS (by rw[List.length_map];omega) fun x hx=>?_
  obtain⟨y,hy,rfl⟩:=List.mem_map.mp hx
  obtain⟨i,hi⟩:=List.getElem?_of_mem hy
  have g:=NO.g i y hi
  have:=uK y.1
  refine pX (by simp) fun z hz=>?_
  simp only[List.mem_cons,List.not_mem_nil,or_false] at hz
  rcases hz with rfl | rfl | rfl
  ·exact xj _ _
  ·exact Er _ (by rw[g.2.1];omega)
  ·exact HQ _ _
 ·refine qS (by rw[List.length_map];omega) fun x hx=>?_
  obtain⟨y,hy,rfl⟩:=List.mem_map.mp hx
  have:=(NO.o y hy).1
  refine pX (by simp) fun z hz=>?_
  simp only[List.mem_cons,List.not_mem_nil,or_false] at hz
  rcases hz with rfl | rfl
  ·exact xj _ _
  ·exact Er _ (by omega)
theorem y3:iy [bB ins gs os]= .ok (bB ins gs os):=rfl
end
section
variable {c:Nat} {ins:List (Str × Nat)} {gs:List Gt} {os:List (Str × List Nat)} {S:aS}
noncomputable def sF(c:Nat)(ins:List (Str × Nat))(gs:List Gt)(x:Str × List Nat):M:=fun p=>(pt (Wd c ins gs [] []) x p).1 || (pt (Wd c ins gs [] []) x p).2
noncomputable def sB(c:Nat)(ins:List (Str × Nat))(gs:List Gt)(x:Str × List Nat):Bool:=decide (hV (2 ^ c) (sF c ins gs x)=hV (2 ^ c) one)
theorem Dq{N:Nat}{f:M}:decide (hV N f=hV N one)=(List.range N).all f:=by
 cases h:(List.range N).all f with
 | true=>
   refine decide_eq_true (lG fun i hi=>?_)
   exact List.all_eq_true.mp h i (List.mem_range.mpr hi)
 | false=>
   refine decide_eq_false fun e=>?_
   have:(List.range N).all f=true:=List.all_eq_true.mpr fun i hi=>by
    have b:=gM N f i
    rw[e,gM,decide_eq_true (List.mem_range.mp hi),Bool.true_and,Bool.true_and] at b
    exact b.symm
   rw[h] at this;cases this
theorem DT{N:Nat}{f:M}:iq (mI N f) (mI N one)= .ok (.bl (decide (hV N f=hV N one))):=by
 show R.ok (D.bl (decide ((hV N f:Int)=(hV N one:Int))))=_
 congr 2
 by_cases q:hV N f=hV N one
 ·rw[decide_eq_true q,decide_eq_true (by rw[q])]
 ·rw[decide_eq_false q,decide_eq_false (by omega)]
theorem vA(NO:i8 ins gs os)(hc:ins.length=c)(hc1:c≤10)(ho:∀x∈os,1≤x.2.length∧x.2.length≤3)(hS:qZ S){Q:V3→aS→Prop}(h:Q (.d (.bl (os.all (sB c ins gs)))) S) :
 W3 (ji [.d (bB ins gs os)] S) Q:=by
 have hz:sizeLine=16777216:=sizeLine_eq
 have hO:=NO.ho
 unfold ji
 refine oP hS (uf rfl ?_)
 simp only[bX,iT,List.map_cons,List.map_nil,List.length_cons,List.length_nil,List.replicate,List.cons_append,List.nil_append,Nat.reduceAdd,Nat.reduceSub]
 unfold my
 have hc0:∀fs:List (Str × V3),hW (S.length+1) (fs.map (·.2))=true→qZ (S++[.ins 0 fs]):=fun fs hf o ho'=>by
  rw[show(S++[SO.ins 0 fs]).length=S.length+1 by simp]
  rcases List.mem_append.mp ho' with q | q
  ·exact lK (by omega) o (hS o q)
  ·rw[List.mem_singleton.mp q];exact hf
 have hb:(S++[SO.ins 0 (cv c (bB ins gs os))])[S.length]? =some (.ins 0 (cv c (bB ins gs os))):=bH _ _
 have hcl:qZ (S++[SO.ins 0 (cv c (bB ins gs os))]):=hc0 _ rfl
 refine aW <| bA (by simp only[List.length_cons,List.length_nil,List.length_set];omega) <| AB <| aL <| dn (d:=bB ins gs os) rfl <| cU <| x4 hc hc1 (hc0 _ rfl) ⟨rfl,_,rfl,?_⟩
 simp only[List.set_cons_succ,List.set_cons_zero]
 refine gq <| yf <| aL <| pL (fun j ds S2=>S2=S++[SO.ins 0 (cv c (bB ins gs os))]∧ds=((os.map (sB c ins gs)).map D.bl).take j) ?_
 refine tf <| tS (k:=S.length) <| w_var (v:= .loc S.length) rfl ⟨_,rfl,hb,Cu _ _ (by decide+kernel) (by decide+kernel) (by decide+kernel) (by decide+kernel),?_⟩
 refine aL <| dn (d:= .tup (([]:List Int).map .int)) rfl <| cU <| ox NO hc ho hcl hb ⟨_,rfl,?_,⟨rfl,by simp⟩,?_,?_⟩
 ·rw[List.length_map,Az,List.length_map];omega
 ·rintro j v ds S2 hv ⟨rfl,rfl⟩
  rw[Az] at hv
  obtain⟨x,hx,rfl⟩:=NT.nJ hv
  refine⟨[some (.d (.tup [mI (2 ^ c) (r0 (tell (Wd c ins gs [] []) x)),mI (2 ^ c) (r1 (tell (Wd c ins gs [] []) x))])),some (.loc S.length)],rfl,rR ?_⟩
  rw[if_pos rfl]
  refine Ak <| dn (d:=mI (2 ^ c) (sF c ins gs x)) (aJ (a:=mI (2 ^ c) (r0 (tell (Wd c ins gs [] []) x))) (b:=mI (2 ^ c) (r1 (tell (Wd c ins gs [] []) x))) (aJ (a:= .tup [mI (2 ^ c) (r0 (tell (Wd c ins gs [] []) x)),mI (2 ^ c) (r1 (tell (Wd c ins gs [] []) x))]) (b:= .int 0) rfl rfl Bm) (aJ (a:= .tup [mI (2 ^ c) (r0 (tell (Wd c ins gs [] []) x)),mI (2 ^ c) (r1 (tell (Wd c ins gs [] []) x))]) (b:= .int 1) rfl rfl CC) (AM _ _ _)) <| w_fld (k:=S.length) <| w_var (v:= .loc S.length) rfl ⟨_,_,rfl,hb,sU,_,_, .bl (sB c ins gs x),rfl,rfl,DT,_,rfl,rfl,?_⟩
  rw[List.take_add_one,List.getElem?_map,List.getElem?_map,hx]
  rfl
 ·rintro ds S2 ⟨rfl,rfl⟩
  rw[List.length_map,Az,List.length_map,List.take_of_length_le (by simp)]
  refine cU ⟨[_], .bl (os.all (sB c ins gs)),rfl,?_,_,rfl,by unfold fL;rfl,⟨_,rfl⟩,_,by unfold res;rfl,h⟩
  show(match bls? ((os.map (sB c ins gs)).map D.bl) with | some bs=>R.ok (D.bl (bs.all id)) | none=> .no)=_
  rw[yn]
  show R.ok (D.bl ((os.map (sB c ins gs)).all id))=_
  rw[List.all_map];rfl
end
theorem EC{fa fb:FX}{δ:DE}{S:aS}{QV:V3→aS→Prop}(h:W3 (fa δ S) fun a S1=>W3 (fb δ S1) fun b S2=>∃vs i v,a= .lst vs∧b= .d (.int i)∧oe vs i=some v∧QV v S2):W3 (yQ fa fb δ S) QV:=
 W3.bind (h.mono fun _ _ h=>W3.bind (h.mono fun _ _ ⟨vs,i,v,e1,e2,e3,q⟩=>by
  subst e1 e2
  simp only[e3]
  exact W3.ok q))
section
variable {c:Nat} {ins:List (Str × Nat)} {gs:List Gt} {os:List (Str × List Nat)} {S:aS}
noncomputable def cl(c:Nat)(ins:List (Str × Nat))(gs:List Gt)(os:List (Str × List Nat))(j n:Nat):List D:=(List.range n).map fun p=>tD (pt (Wd c ins gs [] []) (os.getD j (Str.ofString "",[])) p)
noncomputable def CS(c:Nat)(ins:List (Str × Nat))(gs:List Gt)(os:List (Str × List Nat))(k p:Nat):aS:=(List.range os.length).map fun j=>SO.lst (cl c ins gs os j (if j < k then p+1 else p))
theorem HX{k p j:Nat}(h:j < os.length):(S++CS c ins gs os k p)[S.length+j]? =some (.lst (cl c ins gs os j (if j < k then p+1 else p))):=by
 rw[List.getElem?_append_right (by omega),show S.length+j - S.length=j by omega]
 unfold CS
 rw[List.getElem?_map,List.getElem?_range h];rfl
theorem Fm{k p:Nat}(h:k < os.length):(S++CS c ins gs os k p).set (S.length+k) (.lst (cl c ins gs os k (p+1)))=S++CS c ins gs os (k+1) p:=by
 rw[List.set_append_right _ _ (by omega),show S.length+k - S.length=k by omega]
 congr 1
 refine List.ext_getElem? fun i=>?_
 rw[List.getElem?_set]
 unfold CS
 rw[List.length_map,List.length_range,List.getElem?_map,List.getElem?_map]
 by_cases q:k=i
 ·subst q
  rw[if_pos rfl,if_pos h,List.getElem?_range h]
  show some (SO.lst (cl c ins gs os k (p+1)))=some (SO.lst (cl c ins gs os k (if k < k+1 then p+1 else p)))
  rw[if_pos (by omega)]
 ·rw[if_neg q]
  by_cases r:i < os.length
  ·rw[List.getElem?_range r]
   show some (SO.lst (cl c ins gs os i (if i < k then p+1 else p)))=some (SO.lst (cl c ins gs os i (if i < k+1 then p+1 else p)))
   by_cases z:i < k
   ·rw[if_pos z,if_pos (by omega)]
   ·rw[if_neg z,if_neg (by omega)]
  ·rw[List.getElem?_eq_none (by simp;omega)];rfl
theorem DF{p:Nat}:CS c ins gs os os.length p=CS c ins gs os 0 (p+1):=by
 unfold CS
 refine List.map_congr_left fun j hj=>?_
 rw[List.mem_range] at hj
 rw[if_pos hj,if_neg (by omega)]
theorem GU{k p:Nat}(hS:qZ S):qZ (S++CS c ins gs os k p):=fun o ho=>by
 rcases List.mem_append.mp ho with q | q
 ·exact lK (by simp) o (hS o q)
 ·unfold CS at q
  obtain⟨j,_,rfl⟩:=List.mem_map.mp q
  rfl
end
theorem Bu{f g:aw→R Bool}{δ:aw}{a b:Bool}(h1:f δ= .ok a)(h2:g δ= .ok b):so f g δ= .ok (a || b):=by
 unfold so
 rw[h1,R.aV]
 cases a with
 | true=>rw [if_pos rfl];rfl
 | false=>rw [if_neg (by decide),h2];rfl
end K11
end
section
set_option maxRecDepth 100000
set_option maxHeartbeats 4000000
namespace K11
open PySem PySem.Spec PyProof.Rows L2 L3 MT
theorem yg:∀l:List (Str × Nat),(l.map fun x=>(x.2:Int)).sum=(fX l:Int)
 | []=>rfl
 | x ::l=>by
   have ih:=yg l
   unfold fX at ih ⊢
   rw[List.map_cons,List.sum_cons,List.map_cons,List.sum_cons,ih]
   omega
theorem Gr(n:Nat):Al (n+1) .cI:=rfl
theorem Hh(n:Nat)(r:Bool × Bool):Al (n+1) (tD r):=by
 unfold tD
 split
 ·exact sL _ _
 ·split
  ·exact sL _ _
  ·exact Gr _
noncomputable def A6(W:Nat)(os:List (Str × List Nat)):Prop:=∀x∈os,(1≤x.2.length∧x.2.length≤3)∧∀w∈x.2,w < W
theorem Bn(oz:List (Str × List Nat))(n:Nat):DS (.lst (oz.map i0)) none (some (n:Int))= .ok (.lst ((oz.take n).map i0)):=by
 show R.ok (D.lst (L2.cutD (oz.map i0) none (some (n:Int))))=_
 rw[Gv _ (by omega),Int.toNat_natCast,List.map_take]
theorem C8(oz:List (Str × List Nat))(n:Nat):DS (.lst (oz.map i0)) (some (n:Int)) none= .ok (.lst ((oz.drop n).map i0)):=by
 show R.ok (D.lst (L2.cutD (oz.map i0) (some (n:Int)) none))=_
 rw[vz _ (by omega),Int.toNat_natCast,List.map_drop]
section
variable {l:List (Str × Nat)} {gs:List Gt} {os:List (Str × List Nat)}
noncomputable def pN:Nat→Str | 0=>Str.ofString "pairpair" | _=>Str.ofString "morepair"
theorem Fx{k m:Nat}{S:aS}(p:nB k S)(hm:m≤2)(NO:i8 l gs os)(hlw:∀x∈l,1≤x.2∧x.2≤3)(hl1:1≤l.length)(hol:1≤os.length)(hos:A6 (fX l+gs.length) os){Q:V3→aS→Prop}
 (h:∀(os':List (Str × List Nat)) S1,1≤os'.length→os'.length≤6→A6 (fX l+gs.length) os'→Ev k S S1→Q (.d (.lst (os'.map i0))) S1) :
 W3 (fj [.loc k, .d (bB l gs os), .d (nI m)] S) Q:=by
 have hz:sizeLine=16777216:=sizeLine_eq
 have hk:=p.lt
 have hI:=NO.hi
 have hG:=NO.hg
 have hw1:1≤fX l:=by
  have:=(NT.Bh hlw).1
  unfold fX
  omega
 have hw2:=qj NO.hw
 unfold fj
 refine qG (uf rfl ?_)
 simp only[bX,ef,List.map_cons,List.map_nil,List.length_cons,List.length_nil,List.replicate,List.cons_append,List.nil_append,Nat.reduceAdd,Nat.reduceSub]
 unfold h_
 refine aW <| bA (by simp only[List.length_cons,List.length_nil,List.length_set];omega) <| dn (d:=nI (fX l+gs.length)) ?_ ⟨_,rfl,?_⟩
 ·refine aJ (a:=nI (fX l)) (b:=nI gs.length) (aP (ds:=[.lst ((l.map fun x=>(x.2:Int)).map .int)]) (aN (et (gh (ds:=l.map MT.inD) (mh (aJ (a:=bB l gs os) (b:= .int 0) rfl rfl rfl)) (by rw[List.length_map];omega) ?_)) rfl) ?_) (aP (ds:=[.lst (gs.map iK)]) (aN (aJ (a:=bB l gs os) (b:= .int 1) rfl rfl rfl) rfl) (by rw[kF,List.length_map];rfl)) ?_
  ·rw[List.map_map]
   exact NT.dZ MT.inD _ fun x _=>⟨[.val (.str x.1), .val (nI x.2)],rfl,rfl,rfl⟩
  ·show(match ints? ((l.map fun x=>(x.2:Int)).map D.int) with | some ns=>R.ok (D.int ns.sum) | none=> .no)=_
   rw[L2.ints_map]
   show R.ok (D.int ((l.map fun x=>(x.2:Int)).sum))=_
   rw[yg];rfl
  ·show R.ok (D.int ((fX l:Int)+(gs.length:Int)))=R.ok (D.int ((fX l+gs.length:Nat):Int))
   congr 2
 simp only[List.set_cons_succ,List.set_cons_zero]
 generalize hWW:fX l+gs.length=W at hos h
 refine aW <| bA (by simp only[List.length_cons,List.length_nil,List.length_set];omega) <| dn (d:= .lst ((os.take (6 - m)).map i0)) ?_ ⟨_,rfl,?_⟩
 ·refine kK (d:= .lst (os.map i0)) (lo:=none) (hi:=some ((6 - m:Nat):Int)) (aJ (a:=bB l gs os) (b:= .int 2) rfl rfl rfl) rfl ?_ (Bn _ _)
  show(R.ok (some ((6:Int) - (m:Int))))=_
  congr 2
  omega
 simp only[List.set_cons_succ,List.set_cons_zero]
 refine aW <| ik <| mf (ds:=b_ 0 m) (eU (n:=m) rfl (by omega)) ?_
 refine(cH (fun i δ S2=>Ev k S S2∧∃(oz:List (Str × List Nat)) (a5 a6 a7:Option V3),1≤oz.length∧oz.length≤6+i∧A6 W oz∧δ=[some (.loc k),some (.d (bB l gs os)),some (.d (nI m)),some (.d (nI W)),some (.d (.lst (oz.map i0))),a5,a6,a7])
  ⟨Ev.refl p,os.take (6 - m),none,none,none,by rw[List.length_take];omega,by rw[List.length_take];omega,fun x hx=>hos x (List.mem_of_mem_take hx),rfl⟩ ?_).mono fun o S2 ⟨δ2,e2',v2,oz,a5,a6,a7,hz1,hz2,hzo,hδ⟩=>⟨δ2,e2',?_⟩
 ·rintro i v δ S2 hv ⟨v2,oz,a5,a6,a7,hz1,hz2,hzo,rfl⟩
  obtain⟨hi,rfl⟩:=NT.jC hv
  refine⟨[some (.loc k),some (.d (bB l gs os)),some (.d (nI m)),some (.d (nI W)),some (.d (.lst (oz.map i0))),some (.d (.int i)),a6,a7],rfl,?_⟩
  unfold i7
  have hmn:∃mn:Int,0 < mn∧mn≤W∧oS [nI W, .int 3]= .ok (.int mn):=⟨if(3:Int) < W then 3 else W,by split <;> omega,by split <;> omega,rfl⟩
  obtain⟨mn,hm1,hm2,hm3⟩:=hmn
  refine aW <| bA (by simp only[List.length_cons,List.length_nil,List.length_set];omega) <| rW <| aL <| dn (d:= .str (pN i)) ?_ <| aL <| rW <| aL <| Ak <| dn (d:= .int ((W:Int) - 1)) rfl <| draw (k:=k) (i:=0) (m:=mn) rfl v2.p (aP (ds:=[nI W, .int 3]) rfl hm3) hm1 (by omega) fun r S3 h1 h2 v3=>?_
  ·match i,(by omega:i < 2) with
   | 0,_=>exact rfl
   | 1,_=>exact rfl
  obtain⟨a,ha⟩:∃a:Nat,(W:Int) - 1 - r=a:=⟨((W:Int) - 1 - r).toNat,by omega⟩
  refine⟨_,_,nI a,rfl,rfl,?_,aL <| draw (k:=k) (i:=0) (m:=(W:Int)) rfl v3.p rfl (by omega) (by omega) fun r2 S4 h3 h4 v4=>cU ⟨by simp;omega,cU ⟨by simp;omega,?_⟩⟩⟩
  ·show R.ok (D.int ((W:Int) - 1 - r))=_
   rw[ha];rfl
  obtain⟨b,rfl⟩:=Int.eq_ofNat_of_zero_le h3
  refine⟨_,rfl,?_⟩
  show W3 (bz _ _ [some (.loc k),some (.d (bB l gs os)),some (.d (nI m)),some (.d (nI W)),some (.d (.lst (oz.map i0))),some (.d (.int i)),some (.d (i0 (pN i,[a,b]))),a7] S4) _
  refine aW <| bA (by simp only[List.length_cons,List.length_nil,List.length_set];omega) <| draw (k:=k) (i:=0) (m:=(oz.length:Int)+1) rfl v4.p (aJ (a:= .int oz.length) (b:= .int 1) (aP (ds:=[.lst (oz.map i0)]) rfl (by rw[kF,List.length_map])) rfl rfl) (by omega) (by omega) fun r3 S5 h5 h6 v5=>⟨_,rfl,?_⟩
  obtain⟨at',rfl⟩:=Int.eq_ofNat_of_zero_le h5
  simp only[List.set_cons_succ,List.set_cons_zero]
  refine bA (by simp only[List.length_cons,List.length_nil,List.length_set];omega) <| dn (d:= .lst ((oz.take at'++(pN i,[a,b]) ::oz.drop at').map i0)) ?_ ?_
  ·refine aJ (a:= .lst ((oz.take at').map i0++[i0 (pN i,[a,b])])) (b:= .lst ((oz.drop at').map i0)) (aJ (a:= .lst ((oz.take at').map i0)) (b:= .lst [i0 (pN i,[a,b])]) (kK (d:= .lst (oz.map i0)) (lo:=none) (hi:=some (at':Int)) rfl rfl rfl (Bn _ _)) rfl (lx (by rw[List.length_map,List.length_take];simp;omega))) (kK (d:= .lst (oz.map i0)) (lo:=some (at':Int)) (hi:=none) rfl rfl rfl (C8 _ _)) ((lx (by simp;omega)).trans ?_)
   rw[List.map_append,List.map_cons,List.append_assoc];rfl
  refine⟨_,rfl,v2.trans (v3.trans (v4.trans v5)),oz.take at'++(pN i,[a,b]) ::oz.drop at',_,_,_,?_,?_,?_,rfl⟩
  ·rw[List.length_append,List.length_cons];omega
  ·rw[List.length_append,List.length_cons,List.length_take,List.length_drop];omega
  ·intro x hx
   rcases List.mem_append.mp hx with q | q
   ·exact hzo x (List.mem_of_mem_take q)
   rcases List.mem_cons.mp q with rfl | q
   ·refine⟨by simp,fun w hw=>?_⟩
    simp only[List.mem_cons,List.not_mem_nil,or_false] at hw
    rcases hw with rfl | rfl <;> omega
   ·exact hzo x (List.mem_of_mem_drop q)
 ·subst hδ
  obtain⟨z0,oz,rfl⟩:∃z0 r,oz=z0 ::r:=by
   cases oz with
   | nil=>simp at hz1
   | cons a r=>exact⟨a,r,rfl⟩
  have l2:=v2.len
  refine gq <| dn (d:= .lst (((z0 ::oz).take 5++[(Str.ofString "againout",z0.2)]).map i0)) ?_ ⟨_,rfl,v2.p.1,rfl,_,rfl,?_⟩
  ·refine aJ (a:= .lst (((z0 ::oz).take 5).map i0)) (b:= .lst [i0 (Str.ofString "againout",z0.2)]) (kK (d:= .lst ((z0 ::oz).map i0)) (lo:=none) (hi:=some ((5:Nat):Int)) rfl rfl rfl (Bn _ _)) (et (m4 (ds:=[i0 (Str.ofString "againout",z0.2)]) (aN (i5 (ds:=[.str (Str.ofString "againout"), .tup (z0.2.map nI)]) (aN rfl (aN (aJ (a:=i0 z0) (b:= .int 1) (aJ (a:= .lst ((z0 ::oz).map i0)) (b:= .int ((0:Nat):Int)) rfl rfl (NT.px rfl)) rfl rfl) rfl)) (by simp;omega)) rfl) (by simp;omega))) ((lx (by rw[List.length_map,List.length_take];simp;omega)).trans ?_)
   rw[List.map_append];rfl
  ·rw[List.take_of_length_le (l:=S2) (by omega)]
   refine h _ _ ?_ ?_ ?_ v2
   ·rw[List.length_append];simp
   ·rw[List.length_append,List.length_take];simp;omega
   ·intro x hx
    rcases List.mem_append.mp hx with q | q
    ·exact hzo x (List.mem_of_mem_take q)
    ·rw[List.mem_singleton.mp q]
     exact hzo z0 List.mem_cons_self
end
theorem uL:eE []= .ok (.bl true):=by rfl
end K11
end
section
set_option maxRecDepth 100000
set_option maxHeartbeats 4000000
namespace K11
open PySem PySem.Spec PyProof.Rows L2 L3 MT
theorem qK{α:Type}{f g:α→Bool}:∀{xs:List α},(∀x∈xs,f x=g x)→xs.any f=xs.any g
 | [],_=>rfl
 | x ::xs,h=>by rw[List.any_cons,List.any_cons,h x List.mem_cons_self,qK fun y hy=>h y (List.mem_cons_of_mem _ hy)]
noncomputable def Ja(a:Bool × Bool):Option Int:=if a.1 then some 0 else if a.2 then some 1 else none
theorem A7{α:Type}(f:α→Bool × Bool):∀xs:List α,ois? (xs.map fun x=>tD (f x))=some (xs.map fun x=>Ja (f x))
 | []=>rfl
 | x ::xs=>by
   rw[List.map_cons,List.map_cons]
   have ih:=A7 f xs
   generalize f x=a
   obtain⟨a0,a1⟩:=a
   cases a0 <;> cases a1 <;> (show Option.map _ (ois? _)=_;rw [ih];rfl)
theorem CV{α:Type}(f:α→Bool × Bool)(xs:List α):(xs.map fun x=>Ja (f x)).any (·.isNone)=xs.any fun x=>!((f x).1 || (f x).2):=by
 rw[List.any_map]
 refine qK fun x _=>?_
 show(Ja (f x)).isNone=_
 generalize f x=a
 obtain⟨a0,a1⟩:=a
 cases a0 <;> cases a1 <;> rfl
theorem u6{δ:DE}{S:aS}{i:Nat}{v:V3}{d:D}(h:δ[i]? =some (some v))(hr:res S v=some d):ag i (bV S δ)= .ok d:=by
 unfold ag bV
 rw[List.getElem?_map,h]
 show(match (some (match res S v with | some d=>Sl.val d | none=> .un)) with | some (.val d)=>R.ok d | _=> .no)=_
 rw[hr]
theorem DB(ns:List Int)(k:Nat):∃c:Int,eh [.lst (ns.map .int), .int k]= .ok (.int c):=by
 by_cases h:k < ns.length
 ·refine⟨ns[k],?_⟩
  unfold eh jv
  refine dh ?_
  have e:jK (b2 zF (ag 1) (aA cO (ao (ag 0) aD))) (cJ (e2 ck (ag 0) (ag 1))) eA (cW jE [.lst (ns.map .int), .int k])= .ok (.rt (.int ns[k])):=by
   refine mT ?_ (cL (aJ (a:= .lst (ns.map .int)) (b:= .int k) rfl rfl (jA (nV (by rw[List.getElem?_map,List.getElem?_eq_getElem h];rfl)))))
   refine ij (a:= .int k) (b:= .int ns.length) rfl (aP (ds:=[.lst (ns.map .int)]) rfl (by rw[kF,List.length_map])) ?_
   show R.ok (D.bl (decide ((k:Int) < (ns.length:Int))))=_
   rw[decide_eq_true (by omega)]
  unfold cQ
  rw[e];rfl
 ·refine⟨0,?_⟩
  unfold eh jv
  refine dh (bc (di ?_ rfl) rfl)
  refine ij (a:= .int k) (b:= .int ns.length) rfl (aP (ds:=[.lst (ns.map .int)]) rfl (by rw[kF,List.length_map])) ?_
  show R.ok (D.bl (decide ((k:Int) < (ns.length:Int))))=_
  rw[decide_eq_false (by omega)]
theorem Ea(ns:List Int)(lo hi:Option Int):L2.cutD (ns.map D.int) lo hi=(L2.cutD ns lo hi).map D.int:=by
 unfold L2.cutD
 rw[List.length_map,List.map_take,List.map_drop]
theorem Co:(10000000000000000000000000000000000000000:Int).natAbs.log2 < 9000:=by decide+kernel
section
variable {c:Nat} {ins:List (Str × Nat)} {gs:List Gt} {os:List (Str × List Nat)}
noncomputable def eR(c:Nat)(ins:List (Str × Nat))(gs:List Gt)(x:Str × List Nat):D:= .lst ((List.range (2 ^ c)).map fun p=>tD (pt (Wd c ins gs [] []) x p))
theorem C3(n:Nat)(hc:c≤6)(x:Str × List Nat):Al (n+2) (eR c ins gs x):=by
 have:2 ^ c≤64:=Nat.pow_le_pow_right (by omega) (by omega:c≤6)
 refine qS (by rw[List.length_map,List.length_range];omega) fun d hd=>?_
 obtain⟨p,_,rfl⟩:=List.mem_map.mp hd
 exact Hh _ _
theorem xO(hc:c≤6)(ho:os.length < 1000):Al 5 (.lst (os.map (eR c ins gs))):=by
 refine qS (by rw[List.length_map];omega) fun d hd=>?_
 obtain⟨x,_,rfl⟩:=List.mem_map.mp hd
 exact C3 _ hc x
theorem Bb(p:Str × List Nat→Bool):jm 2 (.lst ((os.filter p).map (eR c ins gs))):=by
 refine jm.lst fun d hd=>?_
 obtain⟨x,_,rfl⟩:=List.mem_map.mp hd
 refine jm.lst fun d hd=>?_
 obtain⟨p,_,rfl⟩:=List.mem_map.mp hd
 unfold tD
 split
 ·exact jm.int _
 ·split
  ·exact jm.int _
  ·exact jm.cI
theorem Gn(x:Str × List Nat):Df .cI (eR c ins gs x)= .ok (.bl (!sB c ins gs x)):=by
 have:Jz .cI (eR c ins gs x)= .ok (!sB c ins gs x):=by
  show(match ois? ((List.range (2 ^ c)).map fun p=>tD (pt (Wd c ins gs [] []) x p)) with | some ss=>R.ok (ss.any (·.isNone)) | none=> .no)=_
  rw[A7]
  show R.ok _=_
  rw[CV]
  unfold sB
  rw[Dq,←List.not_all_eq_any_not]
  rfl
 unfold Df
 rw[this];rfl
theorem DC(p:Str × List Nat→Bool):iq (.lst ((os.filter fun x=>!p x).map (eR c ins gs))) (.lst [])= .ok (.bl (os.all p)):=by
 have f:=Bb (c:=c) (ins:=ins) (gs:=gs) (os:=os) fun x=>!p x
 have f2:jm 1 (.lst []):=jm.lst fun d hd=>by cases hd
 have:EG (.lst ((os.filter fun x=>!p x).map (eR c ins gs))) (.lst [])= .ok (os.all p):=by
  rw[BV,f.pl,f.sh (by omega),f2.pl,f2.sh (by omega)]
  have e:os.all p=(os.filter fun x=>!p x).isEmpty:=by
   cases q:os.all p with
   | true=>
     have:(os.filter fun x=>!p x)=[]:=List.filter_eq_nil_iff.mpr fun x hx=>by rw[List.all_eq_true.mp q x hx];decide
     rw[this];rfl
   | false=>
     obtain⟨x,hx,hp⟩:=List.all_eq_false.mp q
     cases e:os.filter fun x=>!p x with
     | nil=>
       have:=List.filter_eq_nil_iff.mp e x hx
       simp at this;exact absurd this hp
     | cons a r=>rfl
  rw[e]
  cases os.filter fun x=>!p x with
  | nil=>rfl
  | cons a r=>rfl
 unfold iq
 rw[this];rfl
theorem yy{S:aS}{T:aS}{j:Nat}{x:Str × List Nat}(h:os[j]? =some x):(S++(cS c ins gs os++T))[S.length+j]? =some (.lst ((List.range (2 ^ c)).map fun p=>tD (pt (Wd c ins gs [] []) x p))):=by
 have hl:=(List.getElem?_eq_some_iff.mp h).1
 rw[List.getElem?_append_right (by omega),show S.length+j - S.length=j by omega]
 rw[List.getElem?_append_left (by unfold cS;rw [List.length_map];exact hl)]
 unfold cS
 rw[List.getElem?_map,h];rfl
theorem k9{S1:aS}{n:Nat}(h:∀j x,os[j]? =some x→S1[n+j]? =some (.lst ((List.range (2 ^ c)).map fun p=>tD (pt (Wd c ins gs [] []) x p)))):res S1 (.lst (lcs n os.length))=some (.lst (os.map (eR c ins gs))):=by
 unfold res lcs
 rw[xF (F:=fun j=>(List.range (2 ^ c)).map fun p=>tD (pt (Wd c ins gs [] []) (os.getD j (Str.ofString "",[])) p)) _ fun j hj=>?_]
 ·show some (D.lst _)=some (D.lst _)
  congr 2
  exact range_getD (eR c ins gs) _ os
 ·have hjl:=List.mem_range.mp hj
  rw[h j os[j] (List.getElem?_eq_getElem hjl),List.getD_eq_getElem?_getD,List.getElem?_eq_getElem hjl]
  rfl
theorem zy{S:aS}(NO:i8 ins gs os)(hc:ins.length=c)(hc1:c≤6)(ho1:1≤os.length)(ho:∀x∈os,1≤x.2.length∧x.2.length≤3)(hS:qZ S){Q:V3→aS→Prop}(h:Q (.d (.lst (os.map (eR c ins gs)))) S) :
 W3 (j8 [.d (bB ins gs os)] S) Q:=by
 have e:j8 [.d (bB ins gs os)] S=nA iH lq [.d (bB ins gs os)] S:=rfl
 rw[e]
 refine oP hS ?_
 refine se NO hc (by omega) ho1 ho hS ⟨?_,⟨_,rfl⟩,_,k9 (c:=c) (ins:=ins) (gs:=gs) fun j x hx=>?_,h⟩
 ·show jY S.length (lcs (S.length+1) os.length)=true
  exact A2 _ _ _ (by omega)
 ·have:=yy (c:=c) (ins:=ins) (gs:=gs) (S:=S++[SO.ins 0 (cv c (bB ins gs os))]) (T:=[]) hx
  rw[List.append_nil,List.append_assoc,show(S++[SO.ins 0 (cv c (bB ins gs os))]).length=S.length+1 by simp] at this
  exact this
end
structure Dn (l:List (Str × Nat)) (gs:List Gt) (os:List (Str × List Nat)):Prop where
 lw:∀x∈l,1≤x.2∧x.2≤3
 l1:1≤l.length
 l6:l.length≤6
 no:i8 l gs os
 o1:1≤os.length
 oo:A6 (fX l+gs.length) os
theorem Bz(ns:List Int)(hns:ns.length≤63):xu [.lst (ns.map D.int)]= .ok (.bl true):=by
 have hz:sizeLine=16777216:=sizeLine_eq
 have key:W3 (nA mE sf [.d (.lst (ns.map .int))] []) fun v S1=>v= .d (.bl true)∧S1=[]:=by
  refine oP Flat.nil.Kw (uf rfl ?_)
  simp only[bX,mE,List.map_cons,List.map_nil,List.length_cons,List.length_nil,List.replicate,List.cons_append,List.nil_append,Nat.reduceAdd,Nat.reduceSub]
  unfold sf
  obtain⟨c0,ec0⟩:=DB ns 0
  refine aW <| bA (by simp only[List.length_cons,List.length_nil,List.length_set];omega) <| dX <| aL <| dn (d:= .int c0) (aP (ds:=[.lst (ns.map .int), .int 0]) rfl ec0) <| cU <| xt c0 Flat.nil fun S1 p1 l1 _=>⟨_,rfl,?_⟩
  simp only[List.set_cons_succ,List.set_cons_zero]
  simp only[List.length_nil] at p1 l1 ⊢
  refine aW <| bA (by simp only[List.length_cons,List.length_nil,List.length_set];omega) <| dn (d:= .lst ((L2.cutD ns (some 1) (some 15)).map .int)) ?_ ⟨_,rfl,?_⟩
  ·refine kK (d:= .lst (ns.map .int)) (lo:=some 1) (hi:=some 15) rfl rfl rfl ?_
   show R.ok (D.lst (L2.cutD (ns.map D.int) (some 1) (some 15)))=_
   rw[Ea]
  simp only[List.set_cons_succ,List.set_cons_zero]
  have hcl:(L2.cutD ns (some 1) (some 15)).length≤14:=by
   unfold L2.cutD
   rw[show(some (1:Int))=some ((1:Nat):Int) from rfl,show(some (15:Int))=some ((15:Nat):Int) from rfl,HT.pG,HT.pG,List.length_take]
   omega
  generalize L2.cutD ns (some 1) (some 15)=cs at hcl
  refine aW <| ik <| mf (ds:=b_ 0 (2 - (cs.length:Int)).toNat) ?_ ?_
  ·have e:e2 iZ (eC (.int 2)) (aA cO (ao (ag 2) aD)) (down [some (.d (.lst (ns.map .int))),some (.loc 0),some (.d (.lst (cs.map .int))),none,none,none,none,none,none,none,none,none])= .ok (.int (2 - (cs.length:Int))):=
    aJ (a:= .int 2) (b:= .int cs.length) rfl (aP (ds:=[.lst (cs.map .int)]) rfl (by rw[kF,List.length_map])) rfl
   unfold ei
   rw[e,R.aV]
   show R.bZ (decide (-(2 ^ 62)≤2 - (cs.length:Int)∧2 - (cs.length:Int) < 2 ^ 62)) _=_
   rw[cc _ ⟨by omega,by omega⟩]
  refine(cH (fun i δ S2=>nB 0 S2∧∃(ds:List Int) (a3:Option V3),ds.length=cs.length+i∧δ=[some (.d (.lst (ns.map .int))),some (.loc 0),some (.d (.lst (ds.map .int))),a3,none,none,none,none,none,none,none,none])
   ⟨p1,cs,none,rfl,rfl⟩ ?_).mono fun o S2 ⟨δ2,e2',p2,ds,a3,hds,hδ⟩=>⟨δ2,e2',?_⟩
  ·rintro i v δ S2 hv ⟨p2,ds,a3,hds,rfl⟩
   have hi:i < 4:=by
    have:=(List.getElem?_eq_some_iff.mp hv).1
    rw[List.length_map,b_,List.length_map,List.length_range] at this
    omega
   refine⟨_,rfl,?_⟩
   unfold yo
   refine bA (by simp only[List.length_cons,List.length_nil,List.length_set];omega) <| Ak <| dn (d:= .lst (ds.map .int)) rfl <| Ht <| aL <| dX <| aL <| w_var (v:= .loc 0) rfl <| aL <| dn (d:= .int 10000000000000000000000000000000000000000) ?_ <| cU <| tu p2 (by omega) Co fun r S3 h1 h2 v3=>cU ⟨by simp;omega,_,_, .lst ((ds++[r]).map .int),rfl,rfl,?_,_,rfl,v3.p,ds++[r],some v,by simp [hds];omega,rfl⟩
   ·exact rfl
   ·rw[List.map_append]
    exact lx (by rw[List.length_map];simp;omega)
  have hdl:ds.length≤62:=by
   rw[List.length_map,b_,List.length_map,List.length_range] at hds
   omega
  subst hδ
  have mkDn:∀{l:List (Str × Nat)} {gs:List Gt} {os:List (Str × List Nat)},(∀x∈l,1≤x.2∧x.2≤3)→1≤l.length→l.length≤6→gs.length≤62→(∀(i:Nat) (g:Gt),gs[i]? =some g→lh (fX l+i) g)→1≤os.length→os.length < 100→A6 (fX l+gs.length) os→Dn l gs os:=fun hlw hl1 hl6 hgl hgs hol1 hol hos=>⟨hlw,hl1,hl6,⟨by omega,fun x hx=>by have:=hlw x hx;omega,by omega,hgs,by omega,fun x hx=>⟨by have:=(hos x hx).1;omega,(hos x hx).2⟩⟩,hol1,hos⟩
  refine aW <| bA (by simp only[List.length_cons,List.length_nil,List.length_set];omega) <| dX <| aL <| w_var (v:= .loc 0) rfl <| aL <| dn (d:= .lst (ds.map .int)) rfl <| aL <| dn (d:= .int 6) rfl <| aL <| dn (d:= .int 1) rfl <| cU <| u9 p2 (by omega) ⟨by omega,by omega⟩ fun l gs os S4 hlw hl1 hl6 hgl hgs hol1 hol hos v4=>⟨_,rfl,?_⟩
  simp only[List.set_cons_succ,List.set_cons_zero]
  have D4:Dn l gs os:=mkDn hlw hl1 hl6 (by omega) hgs hol1 hol fun x hx=>⟨(hos x hx).1,(hos x hx).2.1⟩
  clear hlw hl1 hl6 hgl hgs hol1 hol hos
  refine aW (W3.mono (Q:=fun o S1=>∃l gs os,o= .nx [some (.d (.lst (ns.map .int))),some (.loc 0),some (.d (.lst (ds.map .int))),a3,some (.d (bB l gs os)),none,none,none,none,none,none,none]∧Dn l gs os∧nB 0 S1∧S1.length=S2.length) ?_ ?_)
  ·refine sT <| Hq <| draw (k:=0) (i:=1) (m:=6) rfl v4.p rfl (by omega) (by omega) fun r S5 h1 h2 v5=>dn (d:= .int 0) rfl ⟨_,_,decide (r=0),rfl,rfl,rfl,?_⟩
   cases decide (r=0) with
   | true=>
     rw[if_pos rfl]
     refine bA (by simp only[List.length_cons,List.length_nil,List.length_set];omega) <| dX <| aL <| w_var (v:= .loc 0) rfl <| aL <| dn (d:= .lst (([]:List Int).map .int)) rfl <| aL <| dn (d:= .int 6) rfl <| aL <| dn (d:= .int 1) rfl <| cU <| u9 v5.p (by simp) ⟨by omega,by omega⟩ fun l gs os S6 hlw hl1 hl6 hgl hgs hol1 hol hos v6=>⟨l,gs,os,rfl,?_,v6.p,by rw[v6.len,v5.len,v4.len]⟩
     exact mkDn hlw hl1 hl6 (by simp at hgl;simp [hgl]) hgs hol1 hol fun x hx=>⟨(hos x hx).1,(hos x hx).2.1⟩
   | false=>
     rw[if_neg (by decide)]
     exact ml ⟨l,gs,os,rfl,D4,v5.p,by rw[v5.len,v4.len]⟩
  clear D4 v4 l gs os
  rintro o S5 ⟨l,gs,os,rfl,D5,p5,hl5⟩
  refine⟨_,rfl,?_⟩
  refine aW <| bA (by simp only[List.length_cons,List.length_nil,List.length_set];omega) <| rW <| aL <| dn (d:= .lst (l.map MT.inD)) rfl <| aL <| dn (d:= .lst (gs.map iK)) rfl <| aL <| dX <| aL <| w_var (v:= .loc 0) rfl <| aL <| dn (d:=bB l gs os) rfl <| aL <| yN <| dn (d:= .lst [.int 0, .int 0, .int 1, .int 2]) rfl <| draw (k:=0) (i:=1) (m:=4) rfl p5 rfl (by omega) (by omega) fun r S6 h1 h2 v6=>?_
  obtain⟨m,hm,em⟩:∃m:Nat,m≤2∧ck (.lst [.int 0, .int 0, .int 1, .int 2]) (.int r)= .ok (nI m):=by
   have:r=0∨r=1∨r=2∨r=3:=by omega
   rcases this with rfl | rfl | rfl | rfl
   ·exact⟨0,by omega,rfl⟩
   ·exact⟨0,by omega,rfl⟩
   ·exact⟨1,by omega,rfl⟩
   ·exact⟨2,by omega,rfl⟩
  refine⟨_,_,nI m,rfl,rfl,em,cU <| Fx v6.p hm D5.no D5.lw D5.l1 D5.o1 D5.oo fun os' S7 ho1 ho6 hos' v7=>cU ⟨by simp;omega,_,rfl,?_⟩⟩
  show W3 (bz _ _ [some (.d (.lst (ns.map .int))),some (.loc 0),some (.d (.lst (ds.map .int))),a3,some (.d (bB l gs os')),none,none,none,none,none,none,none] S7) _
  have N7:i8 l gs os':=⟨D5.no.hi,D5.no.hw,D5.no.hg,D5.no.g,by omega,fun x hx=>⟨by have:=(hos' x hx).1;omega,(hos' x hx).2⟩⟩
  have ho:∀x∈os',1≤x.2.length∧x.2.length≤3:=fun x hx=>(hos' x hx).1
  have hF7:qZ S7:=v7.p.1.Kw
  have hl1:=D5.l1
  have hl6:=D5.l6
  clear D5 v7 v6 p5 em h1 h2 hos'
  generalize hcc:l.length=c at hl1 hl6
  have hpow:2 ^ c≤64:=Nat.pow_le_pow_right (by omega) (by omega:c≤6)
  refine aW <| bA (by simp only[List.length_cons,List.length_nil,List.length_set];omega) <| wg <| mf (ds:=os'.map i0) (mh (aJ (a:=bB l gs os') (b:= .int 2) rfl rfl rfl)) ⟨by rw[List.length_map,List.length_map];omega,?_⟩
  refine(lu (fun i ys S2=>ys=lcs S7.length i∧S2=S7++List.replicate i (SO.lst [])) ⟨rfl,by simp⟩ ?_).mono fun ys S2 ⟨e1,e2'⟩=>?_
  ·rintro i v ys S2 hv ⟨rfl,rfl⟩
   refine⟨[some v],rfl,rR ?_⟩
   rw[if_pos rfl]
   refine jS (ds:=[]) rfl ⟨?_,?_⟩
   ·unfold lcs
    rw[List.range_succ,List.map_append,List.length_append,List.length_replicate];rfl
   ·rw[List.append_assoc,List.replicate_succ']
  subst e1 e2'
  rw[List.length_map,List.length_map,yh ho1]
  refine⟨_,rfl,?_⟩
  simp only[List.set_cons_succ,List.set_cons_zero]
  have h0:List.replicate os'.length (SO.lst [])=CS c l gs os' 0 0:=by
   unfold CS
   refine List.ext_getElem? fun i=>?_
   rw[List.getElem?_map,List.getElem?_replicate]
   by_cases q:i < os'.length
   ·rw[if_pos q,List.getElem?_range q];rfl
   ·rw[if_neg q,List.getElem?_eq_none (by simp;omega)];rfl
  rw[h0]
  refine aW <| ik <| mf (ds:=(bS c).map cD) (mh (aP (ds:=[nI c]) (aN (aP (ds:=[.lst (l.map MT.inD)]) (aN (aJ (a:=bB l gs os') (b:= .int 0) rfl rfl rfl) rfl) (by rw[kF,List.length_map,hcc];rfl)) rfl) (zt (by omega)))) ?_
  refine(cH (fun i δ S2=>(∃a3 a6 a7,δ=[some (.d (.lst (ns.map .int))),some (.loc 0),some (.d (.lst (ds.map .int))),a3,some (.d (bB l gs os')),some (.lst (lcs S7.length os'.length)),a6,a7,none,none,none,none])∧S2=S7++CS c l gs os' 0 i) ⟨⟨_,_,_,rfl⟩,rfl⟩ ?_).mono fun o S2 ⟨δ2,e2',⟨b3,b6,b7,hδ⟩,hS2⟩=>⟨δ2,e2',?_⟩
  ·rintro p v δ S2 hv ⟨⟨a3,a6,a7,rfl⟩,rfl⟩
   obtain⟨bits,hp,rfl⟩:=NT.nJ hv
   refine⟨[some (.d (.lst (ns.map .int))),some (.loc 0),some (.d (.lst (ds.map .int))),a3,some (.d (bB l gs os')),some (.lst (lcs S7.length os'.length)),some (.d (cD bits)),a7,none,none,none,none],rfl,?_⟩
   have hpl:p < 2 ^ c:=by
    have:=(List.getElem?_eq_some_iff.mp hp).1
    rw[cV] at this;exact this
   unfold yt
   refine ik <| mf (ds:=ft (RD c l gs os' [] p)) (FW (aP (ds:=[bB l gs os',cD bits, .tup (([]:List Int).map .int), .tup []]) rfl (t6 (T:=[]) N7 hcc ho hp))) ?_
   refine(cH (fun k δ S3=>(∃a3 a7,δ=[some (.d (.lst (ns.map .int))),some (.loc 0),some (.d (.lst (ds.map .int))),a3,some (.d (bB l gs os')),some (.lst (lcs S7.length os'.length)),some (.d (cD bits)),a7,none,none,none,none])∧S3=S7++CS c l gs os' k p) ⟨⟨_,_,rfl⟩,rfl⟩ ?_).mono fun o S3 ⟨δ3,e3,⟨b3,b4,hδ3⟩,hS3⟩=>?_
   ·rintro k v δ S3 hv ⟨⟨b3,b4,rfl⟩,rfl⟩
    obtain⟨d,hd,rfl⟩:=tQ hv
    unfold RD at hd
    obtain⟨x,hx,rfl⟩:=NT.ye hd
    have hkl:=(List.getElem?_eq_some_iff.mp hx).1
    have hxd:os'.getD k (Str.ofString "",[])=x:=by rw[List.getD_eq_getElem?_getD,hx];rfl
    refine⟨[some (.d (.lst (ns.map .int))),some (.loc 0),some (.d (.lst (ds.map .int))),some (.d (.int k)),some (.d (bB l gs os')),some (.lst (lcs S7.length os'.length)),some (.d (cD bits)),some (.d (tD (pt (Wd c l gs [] []) x p))),none,none,none,none],rfl,?_⟩
    unfold yA
    have hat:=HX (S:=S7) (c:=c) (ins:=l) (gs:=gs) (os:=os') (k:=k) (p:=p) hkl
    rw[if_neg (by omega)] at hat
    refine A9 (k:=S7.length+k) <| EC <| w_var (v:= .lst (lcs S7.length os'.length)) rfl <| dn (d:= .int k) rfl ⟨_,_,_,rfl,rfl,NT.m5 (x:=V3.loc (S7.length+k)) ?_,rfl,⟨_,hat⟩,?_⟩
    ·unfold lcs
     rw[List.getElem?_map,List.getElem?_range hkl];rfl
    refine dn (d:=tD (pt (Wd c l gs [] []) x p)) rfl ⟨_,_,rfl,hat,?_,_,rfl,⟨_,_,rfl⟩,?_⟩
    ·unfold cl;rw [List.length_map,List.length_range];omega
    ·rw[←Fm hkl]
     congr 2
     unfold cl
     rw[List.range_succ,List.map_append]
     congr 1
     show [tD _]=[tD (pt (Wd c l gs [] []) (os'.getD k (Str.ofString "",[])) p)]
     rw[hxd]
   ·subst hδ3 hS3
    have hel:((ft (RD c l gs os' [] p)).map V3.d).length=os'.length:=by unfold ft RD;simp
    rw[hel,DF]
    exact⟨_,e3,⟨_,_,_,rfl⟩,rfl⟩
  subst hδ hS2
  rw[List.length_map,List.length_map,cV]
  have hCS:CS c l gs os' 0 (2 ^ c)=cS c l gs os':=by
   unfold CS cS
   refine(List.map_congr_left fun j _=>?_).trans (range_getD (fun x=>SO.lst ((List.range (2 ^ c)).map fun p=>tD (pt (Wd c l gs [] []) x p))) (Str.ofString "",[]) os')
   rw[if_neg (by omega)];rfl
  rw[hCS]
  have hF8:qZ (S7++cS c l gs os'):=by rw[←hCS];exact GU hF7
  refine aW <| bA (by simp only[List.length_cons,List.length_nil,List.length_set];omega) <| dn (d:=bB l gs os') (aP (ds:=[bB l gs os']) rfl y3) ⟨_,rfl,?_⟩
  simp only[List.set_cons_succ,List.set_cons_zero]
  have hlen8:(S7++cS c l gs os').length=S7.length+os'.length:=by rw[List.length_append];unfold cS;rw [List.length_map]
  refine aW <| bA (by simp only[List.length_cons,List.length_nil,List.length_set];omega) <| dX <| aL <| dn (d:=bB l gs os') rfl <| cU <| se N7 hcc (by omega) ho1 ho hF8 ⟨_,rfl,?_⟩
  simp only[List.set_cons_succ,List.set_cons_zero]
  rw[hlen8]
  generalize hn9:S7.length+os'.length+1=n9
  generalize hS9:S7++cS c l gs os'++SO.ins 0 (cv c (bB l gs os')) ::cS c l gs os'=S9
  have r5:∀T:aS,res (S7++(cS c l gs os'++T)) (.lst (lcs S7.length os'.length))=some (.lst (os'.map (eR c l gs))):=fun T=>k9 fun j x hx=>yy hx
  have r9at:∀j x,os'[j]? =some x→S9[n9+j]? =some (.lst ((List.range (2 ^ c)).map fun p=>tD (pt (Wd c l gs [] []) x p))):=fun j x hx=>by
   have:=yy (c:=c) (ins:=l) (gs:=gs) (S:=S7++cS c l gs os'++[SO.ins 0 (cv c (bB l gs os'))]) (T:=[]) hx
   rw[List.append_nil,List.append_assoc (S7++cS c l gs os'),List.length_append,hlen8] at this
   rw[←hS9,←hn9]
   exact this
  have r9:res S9 (.lst (lcs n9 os'.length))=some (.lst (os'.map (eR c l gs))):=k9 r9at
  have r59:res S9 (.lst (lcs S7.length os'.length))=some (.lst (os'.map (eR c l gs))):=by
   rw[←hS9,List.append_assoc]
   exact r5 _
  have hal:=xO (c:=c) (ins:=l) (gs:=gs) (os:=os') hl6 (by omega)
  refine aW <| sT <| Aw (b:=false) (Bu (a:=false) (b:=false) ?_ ?_) ?_
  ·unfold ia gb
   rw[aP (g:=eE) (ds:=[]) rfl uL];rfl
  ·unfold ia gb
   rw[aP (g:=bb 5) (ds:=[.lst (os'.map (eR c l gs)), .lst (os'.map (eR c l gs))]) (aN (u6 rfl r9) (aN (u6 rfl r59) rfl)) hal];rfl
  rw[if_neg (by decide)]
  refine ml ⟨_,rfl,?_⟩
  obtain⟨z0,oz,hoz⟩:∃z0 r,os'=z0 ::r:=by
   cases os' with
   | nil=>simp at ho1
   | cons a r=>exact⟨a,r,rfl⟩
  have h90:=r9at 0 z0 (by rw[hoz];rfl)
  rw[Nat.add_zero] at h90
  refine aW <| A9 (k:=n9) <| EC <| w_var (v:= .lst (lcs n9 os'.length)) rfl <| dn (d:= .int 0) rfl ⟨_,_,_,rfl,rfl,NT.m5 (z:=0) (x:=V3.loc n9) ?_,rfl,⟨_,h90⟩,dn (d:= .int 0) rfl ⟨_,_,rfl,h90,?_,_,rfl,?_⟩⟩
  ·unfold lcs
   rw[List.getElem?_map,List.getElem?_range (by omega)];rfl
  ·rw[List.length_map,List.length_range];omega
  generalize hX:(List.map (fun p=>tD (pt (Wd c l gs [] []) z0 p)) (List.range (2 ^ c))++[D.int 0])=X0
  generalize hSA:S9.set n9 (SO.lst X0)=SA
  have n9lt:n9 < S9.length:=(List.getElem?_eq_some_iff.mp h90).1
  have rA5:res SA (.lst (lcs S7.length os'.length))=some (.lst (os'.map (eR c l gs))):=by
   refine k9 fun j x hx=>?_
   have hjl:=(List.getElem?_eq_some_iff.mp hx).1
   rw[←hSA,List.getElem?_set_ne (by omega),←hS9,List.append_assoc]
   exact yy hx
  have rA9:res SA (.lst (lcs n9 os'.length))=some (.lst (.lst X0 ::oz.map (eR c l gs))):=by
   have e:lcs n9 os'.length= .loc n9 ::lcs (n9+1) oz.length:=by
    unfold lcs
    rw[hoz,List.length_cons,List.range_succ_eq_map,List.map_cons,List.map_map]
    congr 1
    refine List.map_congr_left fun j _=>?_
    show V3.loc (n9+(j+1))=V3.loc (n9+1+j)
    congr 1;omega
   rw[e]
   have r':res SA (.lst (lcs (n9+1) oz.length))=some (.lst (oz.map (eR c l gs))):=k9 fun j x hx=>by
    have:=r9at (j+1) x (by rw[hoz];exact hx)
    rw[←hSA,List.getElem?_set_ne (by omega),show n9+1+j=n9+(j+1) by omega]
    exact this
   unfold res at r' ⊢
   unfold gx
   obtain⟨ls,el,ee⟩:=jI r'
   cases ee
   rw[el]
   unfold res
   rw[←hSA,List.getElem?_set_self n9lt];rfl
  have hslL:∀a:D,DS (.lst (a ::oz.map (eR c l gs))) (some 1) none= .ok (.lst (oz.map (eR c l gs))):=fun a=>by
   show R.ok (D.lst (L2.cutD (a ::oz.map (eR c l gs)) (some 1) none))=_
   rw[vz _ (by omega)];rfl
  have hal2:=xO (c:=c) (ins:=l) (gs:=gs) (os:=oz) hl6 (by rw[hoz,List.length_cons] at ho6;omega)
  have em9:os'.map (eR c l gs)=eR c l gs z0 ::oz.map (eR c l gs):=by rw[hoz];rfl
  refine aW <| sT <| Aw (b:=false) ?_ ?_
  ·unfold ia gb
   rw[aP (g:=bb 5) (ds:=[.lst (oz.map (eR c l gs)), .lst (oz.map (eR c l gs))]) (aN (kK (lo:=some 1) (hi:=none) (u6 rfl rA9) rfl rfl (hslL _)) (aN (kK (lo:=some 1) (hi:=none) (u6 rfl rA5) rfl rfl (by rw[em9];exact hslL _)) rfl)) hal2];rfl
  rw[if_neg (by decide)]
  refine ml ⟨_,rfl,?_⟩
  refine aW <| bA (by simp only[List.length_cons,List.length_nil,List.length_set];omega) <| t7 (d:= .bl (os'.all (sB c l gs))) ?_ rfl ⟨_,rfl,?_⟩
  ·refine aJ (a:= .lst ((os'.filter fun x=>!sB c l gs x).map (eR c l gs))) (b:= .lst []) (et (gh (ds:=os'.map (eR c l gs)) (mh (u6 rfl rA5)) (by rw[List.length_map];omega) ?_)) rfl (DC _)
   refine NT.qo (fun x=>!sB c l gs x) (eR c l gs) (eR c l gs) fun x _=>⟨[.val (eR c l gs x)],rfl,?_,fun _=>rfl⟩
   exact ij (a:= .cI) (b:=eR c l gs x) rfl rfl (Gn x)
  simp only[List.set_cons_succ,List.set_cons_zero]
  have hclA:qZ SA:=by
   have h9:qZ S9:=by
    rw[←hS9]
    intro o ho'
    have hlt:(S7++cS c l gs os').length≤(S7++cS c l gs os'++SO.ins 0 (cv c (bB l gs os')) ::cS c l gs os').length:=by simp
    rcases List.mem_append.mp ho' with q | q
    ·exact lK hlt o (hF8 o q)
    rcases List.mem_cons.mp q with rfl | q
    ·rfl
    ·unfold cS at q
     obtain⟨x,_,rfl⟩:=List.mem_map.mp q
     rfl
   rw[←hSA]
   intro o ho'
   rw[List.length_set]
   rcases List.mem_or_eq_of_mem_set ho' with q | rfl
   ·exact h9 o q
   ·rfl
  refine aW <| bA (by simp only[List.length_cons,List.length_nil,List.length_set];omega) <| dX <| aL <| dn (d:=bB l gs os') rfl <| cU <| vA (c:=c) N7 hcc (by omega) ho hclA ⟨_,rfl,?_⟩
  simp only[List.set_cons_succ,List.set_cons_zero]
  generalize os'.all (sB c l gs)=B
  refine aW <| sT <| EV (b:=false) ?_ ?_
  ·refine Bu (a:=false) (b:=false) rfl (ij (a:= .bl B) (b:= .bl B) rfl rfl (by cases B <;> rfl))
  rw[if_neg (by decide)]
  refine ml ⟨_,rfl,?_⟩
  refine gq <| w_and <| Dm <| aL <| dX <| aL <| dn (d:=bB l gs os') rfl <| cU <| zy (c:=c) N7 hcc hl6 ho1 ho hclA <| aL <| w_var (v:= .lst (lcs S7.length os'.length)) rfl <| cU ⟨[.lst (os'.map (eR c l gs)), .lst (os'.map (eR c l gs))], .bl true,?_,hal,rfl,rfl,?_⟩
  ·unfold gx gx gx
   rw[rA5]
   unfold res;rfl
  refine dn (d:= .bl true) (aP (ds:=[bB l gs os',bB l gs os']) rfl (Gw N7)) ⟨_,rfl,by unfold fL;rfl,⟨SA,rfl⟩,_,by unfold res;rfl,rfl,trivial⟩
 obtain⟨v,S1,e,rfl,rfl⟩:=key
 unfold xu IP
 simp only[List.map_cons,List.map_nil]
 rw[e]
 rfl
end K11
end
open PySem PySem.W PyProof.Rows
set_option maxRecDepth 100000 in
set_option maxHeartbeats 0 in
theorem PySem.Challenge.cw_bearfaults_k11_outs_read_and_columns_holds : PySem.Challenge.rw_bearfaults_k11_outs_read_and_columns.Holds := by
 w_on;o_law;k_head;(case hw=>w_witness2)
 k_fill
 refine L2.Ij (l:=PySem.Challenge.rw_bearfaults_k11_outs_read_and_columns) (n:=63) (k:=8) (x:=Str.ofString "script") (g:=K11.xu) rfl (by decide) rfl ⟨rfl,by decide,by decide⟩ (fun w h Y=>PySem.W.kIn_of Y) ?F K11.Bz
 case F=>
  intro w mg fa h KX G hmg
  have D_vote_of:L2.Def (L2.eQ KX) mg (Str.ofString "vote_of") K11.eZ:=by
   dsimp only[L2.eQ]
   refine' L2.cb KX G ?a ?l ?c ?k
   (case a=>k_is);(case l=>k_is);(case c=>k_is);(case k=>k_is)
  have D_gate_mask:L2.Def (L2.eQ KX) mg (Str.ofString "gate_mask") K11.dE:=by
   dsimp only[L2.eQ]
   refine' L2.cb KX G ?a ?l ?c ?k
   (case a=>k_is);(case l=>k_is);(case c=>k_is);(case k=>k_is)
  have D_in_wire_masks:L2.Def (L2.eQ KX) mg (Str.ofString "in_wire_masks") K11.cq:=by
   dsimp only[L2.eQ]
   refine' L2.cb KX G ?a ?l ?c ?k
   (case a=>k_is);(case l=>k_is);(case c=>k_is);(case k=>k_is)
  have D_masks_at:L2.Def (L2.eQ KX) mg (Str.ofString "masks_at") K11.d5:=by
   dsimp only[L2.eQ]
   refine' L2.cb KX G ?a ?l ?c ?k
   (case a=>k_is);(case l=>k_is);(case c=>k_is);(case k=>k_is)
  have D_wire_masks:L2.Def (L2.eQ KX) mg (Str.ofString "wire_masks") K11.dc:=by
   dsimp only[L2.eQ]
   refine' L2.cb KX G ?a ?l ?c ?k
   (case a=>k_is);(case l=>k_is);(case c=>k_is);(case k=>k_is)
  have D_out_masks:L2.Def (L2.eQ KX) mg (Str.ofString "out_masks") K11.dG:=by
   dsimp only[L2.eQ]
   refine' L2.cb KX G ?a ?l ?c ?k
   (case a=>k_is);(case l=>k_is);(case c=>k_is);(case k=>k_is)
  have D_reading:L2.Def (L2.eQ KX) mg (Str.ofString "reading") K11.fq:=by
   dsimp only[L2.eQ]
   refine' L2.cb KX G ?a ?l ?c ?k
   (case a=>k_is);(case l=>k_is);(case c=>k_is);(case k=>k_is)
  have D_bit_at:L2.Def (L2.eQ KX) mg (Str.ofString "bit_at") K11.gr:=by
   dsimp only[L2.eQ]
   refine' L2.cb KX G ?a ?l ?c ?k
   (case a=>k_is);(case l=>k_is);(case c=>k_is);(case k=>k_is)
  have D_read_at:L2.Def (L2.eQ KX) mg (Str.ofString "read_at") K11.eY:=by
   dsimp only[L2.eQ]
   refine' L2.cb KX G ?a ?l ?c ?k
   (case a=>k_is);(case l=>k_is);(case c=>k_is);(case k=>k_is)
  have D_told:L2.Def (L2.eQ KX) mg (Str.ofString "told") K11.kg:=by
   dsimp only[L2.eQ]
   refine' L2.cb KX G ?a ?l ?c ?k
   (case a=>k_is);(case l=>k_is);(case c=>k_is);(case k=>k_is)
  have D_all_inputs:L2.Def (L2.eQ KX) mg (Str.ofString "all_inputs") K11.c_:=by
   dsimp only[L2.eQ]
   refine' L2.cb KX G ?a ?l ?c ?k
   (case a=>k_is);(case l=>k_is);(case c=>k_is);(case k=>k_is)
  have D_mask_of:L2.Def (L2.eQ KX) mg (Str.ofString "mask_of") K11.eW:=by
   dsimp only[L2.eQ]
   refine' L2.cb KX G ?a ?l ?c ?k
   (case a=>k_is);(case l=>k_is);(case c=>k_is);(case k=>k_is)
  have D_in_mask:L2.Def (L2.eQ KX) mg (Str.ofString "in_mask") K11.fk:=by
   dsimp only[L2.eQ]
   refine' L2.cb KX G ?a ?l ?c ?k
   (case a=>k_is);(case l=>k_is);(case c=>k_is);(case k=>k_is)
  have D_is_sound:L2.Def (L2.eQ KX) mg (Str.ofString "is_sound") K11.dY:=by
   dsimp only[L2.eQ]
   refine' L2.cb KX G ?a ?l ?c ?k
   (case a=>k_is);(case l=>k_is);(case c=>k_is);(case k=>k_is)
  have D_columns:L2.Def (L2.eQ KX) mg (Str.ofString "columns") K11.eX:=by
   dsimp only[L2.eQ]
   refine' L2.cb KX G ?a ?l ?c ?k
   (case a=>k_is);(case l=>k_is);(case c=>k_is);(case k=>k_is)
  have D_law_cell_at:L2.Def (L2.eQ KX) mg (Str.ofString "_law_cell_at") K11.cN:=by
   dsimp only[L2.eQ]
   refine' L2.cb KX G ?a ?l ?c ?k
   (case a=>k_is);(case l=>k_is);(case c=>k_is);(case k=>k_is)
  have D_law_reel:L2.Def (L2.eQ KX) mg (Str.ofString "_law_reel") K11.d_:=by
   dsimp only[L2.eQ]
   refine' L2.cb KX G ?a ?l ?c ?k
   (case a=>k_is);(case l=>k_is);(case c=>k_is);(case k=>k_is)
  have D_law_take:L2.Def (L2.eQ KX) mg (Str.ofString "_law_take") K11.dS:=by
   dsimp only[L2.eQ]
   refine' L2.cb KX G ?a ?l ?c ?k
   (case a=>k_is);(case l=>k_is);(case c=>k_is);(case k=>k_is)
  have D_law_names:L2.Def (L2.eQ KX) mg (Str.ofString "_law_names") K11.dA:=by
   dsimp only[L2.eQ]
   refine' L2.cb KX G ?a ?l ?c ?k
   (case a=>k_is);(case l=>k_is);(case c=>k_is);(case k=>k_is)
  have D_law_gate:L2.Def (L2.eQ KX) mg (Str.ofString "_law_gate") K11.dW:=by
   dsimp only[L2.eQ]
   refine' L2.cb KX G ?a ?l ?c ?k
   (case a=>k_is);(case l=>k_is);(case c=>k_is);(case k=>k_is)
  have D_law_again:L2.Def (L2.eQ KX) mg (Str.ofString "_law_again") K11.dw:=by
   dsimp only[L2.eQ]
   refine' L2.cb KX G ?a ?l ?c ?k
   (case a=>k_is);(case l=>k_is);(case c=>k_is);(case k=>k_is)
  have D_law_outs:L2.Def (L2.eQ KX) mg (Str.ofString "_law_outs") K11.d4:=by
   dsimp only[L2.eQ]
   refine' L2.cb KX G ?a ?l ?c ?k
   (case a=>k_is);(case l=>k_is);(case c=>k_is);(case k=>k_is)
  have D_law_net:L2.Def (L2.eQ KX) mg (Str.ofString "_law_net") K11.fg:=by
   dsimp only[L2.eQ]
   refine' L2.cb KX G ?a ?l ?c ?k
   (case a=>k_is);(case l=>k_is);(case c=>k_is);(case k=>k_is)
  have D_law_gate_bit:L2.Def (L2.eQ KX) mg (Str.ofString "_law_gate_bit") K11.cG:=by
   dsimp only[L2.eQ]
   refine' L2.cb KX G ?a ?l ?c ?k
   (case a=>k_is);(case l=>k_is);(case c=>k_is);(case k=>k_is)
  have D_law_wires:L2.Def (L2.eQ KX) mg (Str.ofString "_law_wires") K11.dF:=by
   dsimp only[L2.eQ]
   refine' L2.cb KX G ?a ?l ?c ?k
   (case a=>k_is);(case l=>k_is);(case c=>k_is);(case k=>k_is)
  have D_law_read:L2.Def (L2.eQ KX) mg (Str.ofString "_law_read") K11.dU:=by
   dsimp only[L2.eQ]
   refine' L2.cb KX G ?a ?l ?c ?k
   (case a=>k_is);(case l=>k_is);(case c=>k_is);(case k=>k_is)
  have D_law_reads:L2.Def (L2.eQ KX) mg (Str.ofString "_law_reads") K11.dC:=by
   dsimp only[L2.eQ]
   refine' L2.cb KX G ?a ?l ?c ?k
   (case a=>k_is);(case l=>k_is);(case c=>k_is);(case k=>k_is)
  have D_law_inputs:L2.Def (L2.eQ KX) mg (Str.ofString "_law_inputs") K11.c5:=by
   dsimp only[L2.eQ]
   refine' L2.cb KX G ?a ?l ?c ?k
   (case a=>k_is);(case l=>k_is);(case c=>k_is);(case k=>k_is)
  have D_law_alike:L2.Def (L2.eQ KX) mg (Str.ofString "_law_alike") K11.dv:=by
   dsimp only[L2.eQ]
   refine' L2.cb KX G ?a ?l ?c ?k
   (case a=>k_is);(case l=>k_is);(case c=>k_is);(case k=>k_is)
  have D_law_copied:L2.Def (L2.eQ KX) mg (Str.ofString "_law_copied") K11.c7:=by
   dsimp only[L2.eQ]
   refine' L2.cb KX G ?a ?l ?c ?k
   (case a=>k_is);(case l=>k_is);(case c=>k_is);(case k=>k_is)
  have D_law_all_read:L2.Def (L2.eQ KX) mg (Str.ofString "_law_all_read") K11.cE:=by
   dsimp only[L2.eQ]
   refine' L2.cb KX G ?a ?l ?c ?k
   (case a=>k_is);(case l=>k_is);(case c=>k_is);(case k=>k_is)
  have D_law_odd_pairs:L2.Def (L2.eQ KX) mg (Str.ofString "_law_odd_pairs") K11.cn:=by
   dsimp only[L2.eQ]
   refine' L2.cb KX G ?a ?l ?c ?k
   (case a=>k_is);(case l=>k_is);(case c=>k_is);(case k=>k_is)
  have D_law:L2.Def (L2.eQ KX) mg (Str.ofString "law") K11.oB:=by
   dsimp only[L2.eQ]
   refine' L2.cb KX G ?a ?l ?c ?k
   (case a=>k_is);(case l=>k_is);(case c=>k_is);(case k=>k_is)
  obtain⟨cl,CF⟩:∃cl,K11.Cf (L2.eQ KX) mg cl:=by
   dsimp only[L2.eQ]
   refine' K11.HM KX G ?aC0 ?pg0 ?hd0 ?po0 ?sa0 ?mk0 ?kc0 ?n0_net ?n0_many_inputs ?n0_full ?n0_in_masks ?a_Bench___init__ ?i_Bench___init__ ?l_Bench___init__ ?dO ?k_Bench___init__ ?a_Bench_tells ?i_Bench_tells ?l_Bench_tells ?fF ?k_Bench_tells ?a_Bench_readings ?i_Bench_readings ?l_Bench_readings ?dN ?k_Bench_readings ?a_Bench_column ?i_Bench_column ?l_Bench_column ?eI ?k_Bench_column
   (case aC0=>k_is)
   (case pg0=>k_is)
   (case hd0=>k_is)
   (case po0=>k_is)
   (case sa0=>k_is)
   (case mk0=>k_is)
   (case kc0=>k_is)
   (case n0_net=>k_is)
   (case n0_many_inputs=>k_is)
   (case n0_full=>k_is)
   (case n0_in_masks=>k_is)
   (case a_Bench___init__=>k_is)
   (case i_Bench___init__=>k_is)
   (case l_Bench___init__=>k_is)
   (case dO=>k_is)
   (case k_Bench___init__=>k_is)
   (case a_Bench_tells=>k_is)
   (case i_Bench_tells=>k_is)
   (case l_Bench_tells=>k_is)
   (case fF=>k_is)
   (case k_Bench_tells=>k_is)
   (case a_Bench_readings=>k_is)
   (case i_Bench_readings=>k_is)
   (case l_Bench_readings=>k_is)
   (case dN=>k_is)
   (case k_Bench_readings=>k_is)
   (case a_Bench_column=>k_is)
   (case i_Bench_column=>k_is)
   (case l_Bench_column=>k_is)
   (case eI=>k_is)
   (case k_Bench_column=>k_is)
  have D_Bench___init__:=CF.D_Bench___init__
  have D_Bench_tells:=CF.D_Bench_tells
  have D_Bench_readings:=CF.D_Bench_readings
  have D_Bench_column:=CF.D_Bench_column
  have T:K11.Tp (L2.eQ KX) mg cl:=by
   dsimp only[L2.eQ]
   refine' ⟨PySem.W.mg_none_of KX G ?z_enumerate,PySem.W.mg_none_of KX G ?z_range,PySem.W.mg_none_of KX G ?z_len,PySem.W.mg_none_of KX G ?z_tuple,PySem.W.mg_none_of KX G ?z_reversed,PySem.W.mg_none_of KX G ?z_all,PySem.W.mg_none_of KX G ?z_abs,PySem.W.mg_none_of KX G ?z_min,PySem.W.mg_none_of KX G ?z_max,PySem.W.mg_none_of KX G ?z_sum,PySem.W.mg_none_of KX G ?z_int,PySem.W.mg_none_of KX G ?z_isinstance,PySem.W.mg_none_of KX G ?z_bool,PySem.W.mg_none_of KX G ?z_str,PySem.W.mg_none_of KX G ?z_list,CF.C_Bench,CF.N_Bench_net,CF.N_Bench_many_inputs,CF.N_Bench_full,CF.N_Bench_in_masks,CF.M_Bench⟩
   (case z_enumerate=>k_is);(case z_range=>k_is);(case z_len=>k_is);(case z_tuple=>k_is);(case z_reversed=>k_is);(case z_all=>k_is);(case z_abs=>k_is);(case z_min=>k_is);(case z_max=>k_is);(case z_sum=>k_is);(case z_int=>k_is);(case z_isinstance=>k_is);(case z_bool=>k_is);(case z_str=>k_is);(case z_list=>k_is)
  obtain⟨fl,fd,Fl,hl⟩:=D_law
  have e0:=hmg.symm.trans hl
  cases e0
  refine' ⟨fd,?b,fun base kb nb=>K11.Fq T D_vote_of D_gate_mask D_in_wire_masks D_masks_at D_wire_masks D_out_masks D_reading D_bit_at D_read_at D_told D_all_inputs D_mask_of D_in_mask D_Bench___init__ D_Bench_tells D_Bench_readings D_is_sound D_Bench_column D_columns D_law_cell_at D_law_reel D_law_take D_law_names D_law_gate D_law_again D_law_outs D_law_net D_law_gate_bit D_law_wires D_law_read D_law_reads D_law_inputs D_law_alike D_law_copied D_law_all_read D_law_odd_pairs Fl⟩
  obtain⟨_,_,_,_,_,_,_,_,_,e,_,_⟩:=Fl.ex
  subst e
  exact fun s u=> .of_eq rfl
